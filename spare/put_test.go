package spare_test

import (
	"slices"
	"testing"

	"pawl/api"
	"pawl/spare"
)

// P12.3

func TestPutToTheLastPlace(t *testing.T) {
	d := newDrawer(610)
	for _, most := range []int{0, 1, 2, 3, 50, 1999, 2000} {
		for _, first := range []int{0, 1, most / 2, most - 1, most} {
			if first < 0 || first > most {
				continue
			}
			all := d.spares(most + 3)
			s, w := both(t, most, all[:first])
			for _, to := range []int{most + 3, most + 2, most + 1} {
				if e := s.Put(all[first:to]); e != api.ErrStore {
					t.Fatalf("Put of %d with room for %d: %v", to-first, most-first, e)
				}
				checkLists(t, "behind a Put beyond the room", s, w)
			}
			checkPut(t, s, w, all[first:most])
			if s.Room() != 0 {
				t.Fatalf("Room %d in a store that is full", s.Room())
			}
			checkPut(t, s, w, nil)
			checkPut(t, s, w, []api.Spare{})
			checkPut(t, s, w, all[most:most+1])
		}
	}
}

func TestPutOneByOne(t *testing.T) {
	d := newDrawer(611)
	l := d.spares(mostStore + 1)
	s, w := both(t, mostStore, nil)
	for i, x := range l[:mostStore] {
		if e := s.Put(list(x)); e != api.OK || s.Len() != i+1 || s.Room() != mostStore-i-1 {
			t.Fatalf("Put number %d: %v; Len %d, Room %d", i, e, s.Len(), s.Room())
		}
	}
	w.spares = slices.Clone(l[:mostStore])
	checkLists(t, "behind 2000 Puts", s, w)
	if e := s.Put(l[mostStore:]); e != api.ErrStore {
		t.Fatalf("Put into a full store: %v", e)
	}
	checkLists(t, "behind a Put into a full store", s, w)
}

// Two that meet may stand anywhere, of the list or of the store, and what is refused leaves nothing behind.
func TestPutTwice(t *testing.T) {
	d := newDrawer(612)
	for range 200 {
		all := d.spares(12)
		s, w := both(t, 12, all[:6])
		fresh := all[6:]
		for i := range fresh {
			for j := range w.spares {
				bad := slices.Clone(fresh)
				bad[i].Header, bad[i].N = w.spares[j].Header, w.spares[j].N
				refuse(t, s, w, bad, api.ErrTwice)
			}
			for j := range i {
				bad := slices.Clone(fresh)
				bad[i].Header, bad[i].N = fresh[j].Header, fresh[j].N
				refuse(t, s, w, bad, api.ErrTwice)
				bad[j].Header, bad[j].N = w.spares[0].Header, w.spares[0].N
				refuse(t, s, w, bad, api.ErrTwice)
				bad[i].Header, bad[i].N = w.spares[0].Header, w.spares[0].N
				refuse(t, s, w, bad, api.ErrTwice)
			}
		}
		checkPut(t, s, w, fresh)
	}
}

// refuse holds that a Put is refused, finds nothing of it behind, and the store as it was.
func refuse(t *testing.T, s *spare.Store, w *storeByWords, l []api.Spare, want api.Errno) {
	t.Helper()
	if e := s.Put(l); e != want {
		t.Fatalf("Put of %d: %v, not %v", len(l), e, want)
	}
	checkStore(t, "behind a Put that was refused", s, w)
	for _, x := range l {
		checkFind(t, s, w, x.Header, x.N)
	}
}

// Whether the message's keys are alike does not count; nor does it help that all of both spares is alike.
func TestPutTwiceOfAnyMessage(t *testing.T) {
	one := api.Spare{Header: h, N: 4, Message: a}
	s, w := both(t, 9, list(one))
	for _, message := range []api.Key{a, b, {}} {
		refuse(t, s, w, list(api.Spare{Header: h, N: 4, Message: message}), api.ErrTwice)
		refuse(t, s, w, list(api.Spare{Header: k, N: 4, Message: a}, api.Spare{Header: k, N: 4, Message: message}), api.ErrTwice)
	}
	checkPut(t, s, w, list(api.Spare{Header: h, N: 5, Message: a}, api.Spare{Header: k, N: 4, Message: a}, api.Spare{Header: k, N: 5, Message: a}))
}

// What meets is asked ahead of the room, wherever it stands in a list that is too long.
func TestPutTwiceAheadOfTheRoom(t *testing.T) {
	d := newDrawer(613)
	for _, most := range []int{0, 1, 5, 2000} {
		for _, kept := range []int{0, most / 2, most} {
			all := d.spares(most + 20)
			s, w := both(t, most, all[:kept])
			long := all[kept:]
			refuse(t, s, w, long, api.ErrStore)
			for _, i := range []int{0, 1, len(long) / 2, len(long) - 1} {
				bad := slices.Clone(long)
				bad[i].Header, bad[i].N = long[(i+1)%len(long)].Header, long[(i+1)%len(long)].N
				refuseOnly(t, s, w, bad)
				if kept > 0 {
					bad = slices.Clone(long)
					bad[i].Header, bad[i].N = all[kept-1].Header, all[kept-1].N
					refuseOnly(t, s, w, bad)
				}
			}
		}
	}
}

// refuseOnly holds that two meet, without looking for each of a long list.
func refuseOnly(t *testing.T, s *spare.Store, w *storeByWords, l []api.Spare) {
	t.Helper()
	if e := s.Put(l); e != api.ErrTwice {
		t.Fatalf("Put of %d, too long and with two that meet: %v", len(l), e)
	}
	checkLists(t, "behind a Put that was refused", s, w)
}

// A list far longer than all bounds is looked through to its end.
func TestPutOfALongList(t *testing.T) {
	const long = 70000
	l := make([]api.Spare, long)
	for i := range l {
		l[i] = api.Spare{Header: h, N: uint32(i), Message: a}
	}
	s, w := both(t, 3, list(api.Spare{Header: k, N: 1, Message: b}))
	for _, x := range []struct {
		last api.Spare
		want api.Errno
	}{
		{api.Spare{Header: h, N: long, Message: a}, api.ErrStore},
		{api.Spare{Header: h, N: 0, Message: a}, api.ErrTwice},
		{api.Spare{Header: k, N: 1, Message: a}, api.ErrTwice},
	} {
		l[long-1] = x.last
		if e := s.Put(l); e != x.want {
			t.Errorf("Put of %d: %v, not %v", long, e, x.want)
		}
		checkStore(t, "behind a Put of a long list", s, w)
	}
	checkPut(t, s, w, l[:2])
}

// Every bit of the header key and of the number tells two spares apart.
func TestEveryBitTells(t *testing.T) {
	d := newDrawer(614)
	first := api.Spare{Header: d.key(), N: 0x5a5a1234, Message: d.key()}
	l := list(first)
	for bit := range 256 {
		x := api.Spare{Header: first.Header, N: first.N, Message: d.key()}
		x.Header[bit/8] ^= 1 << (bit % 8)
		l = append(l, x)
	}
	for bit := range 32 {
		l = append(l, api.Spare{Header: first.Header, N: first.N ^ 1<<bit, Message: d.key()})
	}
	s, w := both(t, mostStore, nil)
	checkPut(t, s, w, l)
	d.Shuffle(len(l), func(i, j int) { l[i], l[j] = l[j], l[i] })
	for _, x := range l {
		checkTake(t, s, w, x.Header, x.N)
	}
}

// The ends: keys of zeros and of ones, the least and the greatest number.
func TestExtremeSpares(t *testing.T) {
	ones := api.Key{}
	for i := range ones {
		ones[i] = 0xff
	}
	var l []api.Spare
	for i, n := range numbers {
		for _, header := range []api.Key{{}, ones} {
			l = append(l, api.Spare{Header: header, N: n, Message: []api.Key{{}, ones}[i%2]})
		}
	}
	s, w := both(t, len(l), l)
	checkStore(t, "From", s, w)
	if got, is := s.Find(api.Key{}, 0); got != (api.Key{}) || !is {
		t.Errorf("Find of a message's key that is zero: %x, %v", got, is)
	}
	for _, x := range l {
		refuse(t, s, w, list(x), api.ErrTwice)
	}
	if got, is := s.Take(api.Key{}, 0); got != (api.Key{}) || !is || s.Len() != len(l)-1 {
		t.Errorf("Take of a message's key that is zero: %x, %v", got, is)
	}
}
