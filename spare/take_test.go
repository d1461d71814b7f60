package spare_test

import (
	"math"
	"slices"
	"testing"

	"pawl/api"
	"pawl/spare"
)

// P12.4

func TestFindAndTakeOfNone(t *testing.T) {
	d := newDrawer(620)
	l := d.spares(30)
	s, w := both(t, 40, l)
	for _, x := range l {
		for _, n := range append(numbers, x.N+1, x.N-1, x.N+1<<8, x.N+1<<31) {
			checkFind(t, s, w, x.Header, n+1000)
			checkTake(t, s, w, x.Header, n+1000)
		}
		for _, header := range []api.Key{{}, x.Message, d.key(), {31: 1}} {
			checkFind(t, s, w, header, x.N)
			checkTake(t, s, w, header, x.N)
		}
	}
	if s.Len() != len(l) {
		t.Errorf("Len %d behind Takes of none", s.Len())
	}
}

// Of the same number there is a spare under each header key, and the other way round; each is found and taken by itself.
func TestFindAndTakeOfEach(t *testing.T) {
	d := newDrawer(621)
	var l []api.Spare
	for header := range 5 {
		for n := range 5 {
			l = append(l, api.Spare{Header: api.Key{byte(header)}, N: uint32(n), Message: d.key()})
		}
	}
	for range 50 {
		d.Shuffle(len(l), func(i, j int) { l[i], l[j] = l[j], l[i] })
		s, w := both(t, len(l), l)
		order := d.Perm(len(l))
		for gone, i := range order {
			checkTake(t, s, w, l[i].Header, l[i].N)
			for _, j := range order[:gone+1] {
				checkFind(t, s, w, l[j].Header, l[j].N)
				checkTake(t, s, w, l[j].Header, l[j].N)
			}
		}
		if s.Len() != 0 || s.Room() != len(l) {
			t.Fatalf("Len %d, Room %d behind all Takes", s.Len(), s.Room())
		}
	}
}

// The first, the last and those between: the others stay in their order.
func TestTakeAtEachPlace(t *testing.T) {
	d := newDrawer(622)
	for n := 1; n <= 12; n++ {
		for i := range n {
			l := d.spares(n)
			s, w := both(t, n, l)
			if got, is := s.Take(l[i].Header, l[i].N); got != l[i].Message || !is {
				t.Fatalf("Take of number %d of %d: %x, %v", i, n, got, is)
			}
			if !slices.Equal(s.List(), slices.Delete(slices.Clone(l), i, i+1)) {
				t.Fatalf("List behind Take of number %d of %d: %v", i, n, s.List())
			}
			w.take(l[i].Header, l[i].N)
			checkStore(t, "behind Take", s, w)
			checkPut(t, s, w, list(l[i]))
		}
	}
}

func TestTakeOfMany(t *testing.T) {
	d := newDrawer(623)
	l := d.spares(mostStore)
	s, w := both(t, mostStore, l)
	for count, i := range d.Perm(mostStore) {
		x := l[i]
		if got, is := s.Take(x.Header, x.N); got != x.Message || !is {
			t.Fatalf("Take: %x, %v", got, is)
		}
		w.take(x.Header, x.N)
		if count%200 == 0 {
			checkLists(t, "behind Take", s, w)
		}
		if got, is := s.Take(x.Header, x.N); got != (api.Key{}) || is || s.Len() != mostStore-count-1 {
			t.Fatalf("Take again: %x, %v", got, is)
		}
	}
}

// P12.5

func TestForget(t *testing.T) {
	d := newDrawer(624)
	for _, count := range []int{0, 1, 2, 3, 10, 300} {
		l := d.spares(count)
		for _, n := range []int{math.MinInt, -1 << 32, -1<<32 + 1, -2, -1, 0, 1, 2, count / 2, count - 1, count, count + 1, count + 2, 2 * count, 2001, 1 << 32, 1<<32 + 1, 1<<40 - 1, math.MaxInt} {
			s, w := both(t, count+1, l)
			checkForget(t, s, w, n)
			checkForget(t, s, w, n)
			checkForget(t, s, w, 1)
		}
	}
}

func TestForgetOfAllOfMany(t *testing.T) {
	d := newDrawer(625)
	l := d.spares(mostStore)
	s, w := both(t, mostStore, l)
	for _, n := range []int{1, 500, 1498, 1, 1} {
		if got, want := s.Forget(n), w.forget(n); got != want {
			t.Fatalf("Forget(%d): %d, not %d", n, got, want)
		}
		checkLists(t, "behind Forget", s, w)
	}
	checkPut(t, s, w, l[:3])
	if got := s.Put(l[3:]); got != api.OK || !slices.Equal(s.List(), l) {
		t.Errorf("Put of what was forgotten: %v", got)
	}
}

// The oldest is the one that was put first, whatever its number and header key are; one that is put again is the newest.
func TestForgetTheOldest(t *testing.T) {
	s, w := both(t, 5, nil)
	one := api.Spare{Header: k, N: 9, Message: a}
	two := api.Spare{Header: h, N: 1, Message: b}
	three := api.Spare{Header: k, N: 2, Message: c}
	checkPut(t, s, w, list(one))
	checkPut(t, s, w, list(two, three))
	checkTake(t, s, w, k, 9)
	checkPut(t, s, w, list(one))
	for i, want := range [][]api.Spare{list(three, one), list(one), nil} {
		if got := s.Forget(1); got != 1 || !slices.Equal(s.List(), want) {
			t.Fatalf("Forget number %d: %d; %v", i, got, s.List())
		}
	}
}

// P12.6

func TestClone(t *testing.T) {
	d := newDrawer(626)
	for range 300 {
		most := d.Intn(12)
		s, w := both(t, most, d.spares(d.Intn(most+1)))
		for range 10 {
			s, w = anyCall(t, d, s, w)
		}
		other := s.Clone()
		otherW := &storeByWords{most, slices.Clone(w.spares)}
		checkStore(t, "the clone", other, otherW)
		for range 30 {
			if d.Intn(2) == 0 {
				s, w = anyCall(t, d, s, w)
			} else {
				other, otherW = anyCall(t, d, other, otherW)
			}
			checkStore(t, "the one", s, w)
			checkStore(t, "the other one", other, otherW)
		}
	}
}

// A clone of none, of one that is full, and of a clone.
func TestCloneOfClones(t *testing.T) {
	d := newDrawer(627)
	for _, most := range []int{0, 1, 2000} {
		l := d.spares(most)
		empty, emptyW := both(t, most, nil)
		clone := empty.Clone().Clone()
		checkLists(t, "a clone of none", clone, emptyW)
		if e := clone.Put(l); e != api.OK {
			t.Fatalf("Put into a clone of none: %v", e)
		}
		checkLists(t, "what was cloned", empty, emptyW)
		full := clone.Clone()
		fullW := &storeByWords{most, l}
		checkLists(t, "a clone of one that is full", full, fullW)
		clone.Forget(most)
		checkLists(t, "a clone of one that was emptied", full, fullW)
		if e := full.Put(list(api.Spare{Header: d.key()})); e != api.ErrStore {
			t.Fatalf("Put into a full clone: %v", e)
		}
	}
}

// P12.7

// Whatever is called, with whatever lists, no two meet and none is above the bound.
func TestBound(t *testing.T) {
	d := newDrawer(628)
	for range 200 {
		most := d.Intn(20)
		s, e := spare.New(most)
		if e != api.OK {
			t.Fatal(e)
		}
		for range 100 {
			switch d.Intn(5) {
			case 0, 1, 2:
				s.Put(d.nears(8))
			case 3:
				x := d.near()
				s.Take(x.Header, x.N)
			case 4:
				s.Forget(d.Intn(4) - 1)
			}
			l := s.List()
			if s.Len() < 0 || s.Len() > most || len(l) != s.Len() || s.Room() != most-s.Len() || anyMeet(l) {
				t.Fatalf("of the bound %d: Len %d, Room %d, List %v", most, s.Len(), s.Room(), l)
			}
		}
	}
}

// P12.8

func TestPutAndTaken(t *testing.T) {
	d := newDrawer(629)
	for range 300 {
		all := d.spares(2 + d.Intn(20))
		kept := d.Intn(len(all))
		s, w := both(t, len(all), all[:kept])
		was := s.List()
		for rest := all[kept:]; len(rest) > 0; {
			n := 1 + d.Intn(len(rest))
			checkPut(t, s, w, rest[:n])
			rest = rest[n:]
		}
		for _, i := range d.Perm(len(all) - kept) {
			x := all[kept+i]
			checkTake(t, s, w, x.Header, x.N)
		}
		if !slices.Equal(s.List(), was) || s.Len() != kept || s.Room() != len(all)-kept {
			t.Fatalf("behind Puts and Takes: %v, not %v", s.List(), was)
		}
		checkStore(t, "behind Puts and Takes", s, &storeByWords{len(all), all[:kept]})
	}
}

// What was taken is not found whatever else comes, until it is put; then it is, with the key that was put then.
func TestTakenUntilPutAgain(t *testing.T) {
	d := newDrawer(630)
	for range 200 {
		x := api.Spare{Header: d.key(), N: d.Uint32(), Message: d.key()}
		s, w := both(t, 12, append(d.spares(3), x))
		checkTake(t, s, w, x.Header, x.N)
		for range 20 {
			s, w = anyCall(t, d, s, w)
			if got, is := s.Find(x.Header, x.N); got != (api.Key{}) || is {
				t.Fatalf("Find of what was taken: %x, %v", got, is)
			}
			if got, is := s.Take(x.Header, x.N); got != (api.Key{}) || is {
				t.Fatalf("Take of what was taken: %x, %v", got, is)
			}
		}
		checkForget(t, s, w, 5)
		x.Message = d.key()
		checkPut(t, s, w, list(x))
		if got, is := s.Find(x.Header, x.N); got != x.Message || !is {
			t.Fatalf("Find of what was put again: %x, %v", got, is)
		}
	}
}

// P12.9

func TestBack(t *testing.T) {
	d := newDrawer(631)
	for range 300 {
		most := d.Intn(14)
		s, w := both(t, most, nil)
		for range d.Intn(40) {
			s, w = anyCall(t, d, s, w)
		}
		back, backW := both(t, most, s.List())
		checkStore(t, "From of List", back, w)
		seed := d.Int63()
		one, other := newDrawer(seed), newDrawer(seed)
		for range 30 {
			s, w = anyCall(t, one, s, w)
			back, backW = anyCall(t, other, back, backW)
			if !slices.Equal(s.List(), back.List()) || !slices.Equal(s.Headers(), back.Headers()) || s.Room() != back.Room() {
				t.Fatalf("%v and %v", s.List(), back.List())
			}
		}
	}
	l := d.spares(mostStore)
	s, w := both(t, mostStore, l)
	back, _ := both(t, mostStore, s.List())
	checkLists(t, "From of a List of 2000", back, w)
}
