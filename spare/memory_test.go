package spare_test

import (
	"slices"
	"sync"
	"testing"

	"pawl/api"
	"pawl/spare"
)

// What is handed in is neither changed nor kept, and what is given is new memory, room too; two stores know nothing of one another.

// fill overwrites a list, room too.
func fill(l []api.Spare) {
	l = l[:cap(l)]
	for i := range l {
		l[i] = api.Spare{Header: api.Key{0xa5}, N: 7, Message: api.Key{0xa5}}
	}
}

func fillKeys(l []api.Key) {
	l = l[:cap(l)]
	for i := range l {
		l[i] = api.Key{0xa5}
	}
}

// withRoom is a list as it is handed in, and all that it stands in: some spares ahead of it and behind it.
func withRoom(d drawer, l []api.Spare) (handed, whole []api.Spare) {
	whole = slices.Concat(d.spares(3), l, d.spares(5))
	return whole[3 : 3+len(l)], whole
}

func TestMemoryOfWhatIsHandedIn(t *testing.T) {
	d := newDrawer(640)
	for n := range 30 {
		all := d.spares(n + 5)
		handed, whole := withRoom(d, all[:n])
		was := slices.Clone(whole)
		s, e := spare.From(n+5, handed)
		w := &storeByWords{n + 5, slices.Clone(all[:n])}
		if e != api.OK || !slices.Equal(whole, was) {
			t.Fatalf("From of %d: %v, or what was handed in has changed", n, e)
		}
		fill(whole)
		checkStore(t, "From, behind a change of what was handed in", s, w)
		handed, whole = withRoom(d, all[n:])
		was = slices.Clone(whole)
		checkPut(t, s, w, handed)
		s.Forget(n / 2)
		w.forget(n / 2)
		s.Take(all[n].Header, all[n].N)
		w.take(all[n].Header, all[n].N)
		if !slices.Equal(whole, was) {
			t.Fatalf("Put of %d: what was handed in has changed", len(handed))
		}
		fill(whole)
		checkStore(t, "Put, behind a change of what was handed in", s, w)
	}
}

// A Put or From that is refused changes nothing of what was handed in either.
func TestMemoryOfWhatIsRefused(t *testing.T) {
	d := newDrawer(641)
	for n := 2; n < 20; n++ {
		l := d.spares(n)
		twice := slices.Clone(l)
		twice[n-1].Header, twice[n-1].N = l[0].Header, l[0].N
		for _, bad := range [][]api.Spare{l, twice} {
			handed, whole := withRoom(d, bad)
			was := slices.Clone(whole)
			s, w := both(t, n-1, l[:1])
			if s.Put(handed) == api.OK {
				t.Fatal("Put")
			}
			if _, e := spare.From(n-1, handed); e == api.OK {
				t.Fatal("From")
			}
			if !slices.Equal(whole, was) {
				t.Fatal("what was handed in has changed")
			}
			fill(whole)
			checkStore(t, "behind a change of what was refused", s, w)
		}
	}
}

func TestMemoryOfWhatIsGiven(t *testing.T) {
	d := newDrawer(642)
	for n := range 40 {
		s, w := both(t, n+2, d.spares(n))
		one, other := s.List(), s.List()
		heads, otherHeads := s.Headers(), s.Headers()
		cloned := s.Clone()
		clonedW := &storeByWords{w.most, slices.Clone(w.spares)}
		fill(one)
		fillKeys(heads)
		checkStore(t, "behind a change of what was given", s, w)
		checkStore(t, "a clone", cloned, clonedW)
		if !slices.Equal(other, w.spares) || !slices.Equal(otherHeads, w.headers()) {
			t.Fatalf("of %d: an answer changes with another one", n)
		}
		checkForget(t, s, w, 1)
		checkPut(t, s, w, d.spares(2))
		if !slices.Equal(other, clonedW.spares) || !slices.Equal(otherHeads, clonedW.headers()) {
			t.Fatalf("of %d: an answer changes with the store", n)
		}
		fill(cloned.List())
		fillKeys(cloned.Headers())
		checkStore(t, "behind a change of what a clone gave", s, w)
	}
}

// What is put behind an answer does not go into its room.
func TestMemoryOfRoom(t *testing.T) {
	d := newDrawer(643)
	for n := range 20 {
		all := d.spares(n + 4)
		s, w := both(t, n+4, all[:n])
		l, heads := s.List(), s.Headers()
		x := api.Spare{Header: h, N: 3, Message: a}
		l, heads = append(l, x), append(heads, h)
		checkPut(t, s, w, all[n:])
		if l[n] != x || heads[len(heads)-1] != h {
			t.Fatalf("of %d: what was put stands in the room of an answer", n)
		}
		checkStore(t, "behind an append to what was given", s, w)
	}
}

// Stores of their own may be used at one time, clones too.
func TestStoresAtOneTime(t *testing.T) {
	shared := newDrawer(644).spares(50)
	first, e := spare.From(60, shared)
	if e != api.OK {
		t.Fatal(e)
	}
	var all sync.WaitGroup
	for i := range 8 {
		s := first.Clone()
		all.Go(func() {
			d := newDrawer(int64(650 + i))
			own := d.spares(10)
			if s.Put(own) != api.OK || !slices.Equal(s.List(), slices.Concat(shared, own)) {
				t.Errorf("number %d: Put", i)
			}
			for _, j := range d.Perm(len(shared)) {
				if got, is := s.Take(shared[j].Header, shared[j].N); got != shared[j].Message || !is {
					t.Errorf("number %d: Take", i)
				}
			}
			if s.Forget(3) != 3 || !slices.Equal(s.List(), own[3:]) {
				t.Errorf("number %d: Forget", i)
			}
		})
	}
	all.Wait()
	if !slices.Equal(first.List(), shared) {
		t.Error("the one that was cloned has changed")
	}
}
