package spare_test

import (
	"slices"
	"testing"

	"pawl/api"
	"pawl/spare"
)

var h, k = api.Key{1}, api.Key{2}

var a, b, c = api.Key{0xa}, api.Key{0xb}, api.Key{0xc}

func list(l ...api.Spare) []api.Spare { return l }

// The chapter's examples.

func TestExamplesOneAndTwo(t *testing.T) {
	s, e := spare.New(2)
	if e != api.OK || s.Put(list(api.Spare{Header: h, N: 1, Message: a}, api.Spare{Header: k, N: 1, Message: b})) != api.OK {
		t.Fatal("New(2) and Put of two")
	}
	if !slices.Equal(s.List(), list(api.Spare{Header: h, N: 1, Message: a}, api.Spare{Header: k, N: 1, Message: b})) {
		t.Fatalf("List: %v", s.List())
	}
	if s.Len() != 2 || s.Room() != 0 || !slices.Equal(s.Headers(), []api.Key{h, k}) {
		t.Fatalf("Len %d, Room %d, Headers %x", s.Len(), s.Room(), s.Headers())
	}
	if s.Put(nil) != api.OK {
		t.Error("Put of none")
	}
	if e := s.Put(list(api.Spare{Header: h, N: 2, Message: c})); e != api.ErrStore {
		t.Errorf("Put beyond the room: %v", e)
	}
	if e := s.Put(list(api.Spare{Header: h, N: 1, Message: c})); e != api.ErrTwice {
		t.Errorf("Put of one that meets, beyond the room: %v", e)
	}
	if got, is := s.Find(h, 1); got != a || !is {
		t.Errorf("Find(h, 1): %x, %v", got, is)
	}
	if got, is := s.Find(h, 2); got != (api.Key{}) || is {
		t.Errorf("Find(h, 2): %x, %v", got, is)
	}
	if got, is := s.Take(h, 1); got != a || !is || !slices.Equal(s.Headers(), []api.Key{k}) {
		t.Errorf("Take(h, 1): %x, %v; Headers %x", got, is, s.Headers())
	}
	if s.Put(list(api.Spare{Header: h, N: 1, Message: c})) != api.OK {
		t.Error("Put of what was taken")
	}
	if !slices.Equal(s.List(), list(api.Spare{Header: k, N: 1, Message: b}, api.Spare{Header: h, N: 1, Message: c})) {
		t.Errorf("List: %v", s.List())
	}
	if s.Forget(1) != 1 || !slices.Equal(s.List(), list(api.Spare{Header: h, N: 1, Message: c})) {
		t.Errorf("behind Forget(1): %v", s.List())
	}
	if s.Forget(9) != 1 || s.Len() != 0 || s.Forget(-1) != 0 {
		t.Error("Forget of more, and below 0")
	}
}

func TestExampleThree(t *testing.T) {
	s, _ := spare.New(2)
	if e := s.Put(list(api.Spare{Header: h, N: 3, Message: a}, api.Spare{Header: h, N: 3, Message: b})); e != api.ErrTwice || s.Len() != 0 {
		t.Errorf("Put of two that meet: %v; %v", e, s.List())
	}
	for _, most := range []int{-1, 2001} {
		if s, e := spare.New(most); s != nil || e != api.ErrArg {
			t.Errorf("New(%d): %v, %v", most, s, e)
		}
	}
	if s, e := spare.From(1, list(api.Spare{Header: h, N: 1, Message: a}, api.Spare{Header: h, N: 2, Message: b})); s != nil || e != api.ErrStore {
		t.Errorf("From(1, of two): %v, %v", s, e)
	}
	if s, e := spare.From(0, nil); s == nil || e != api.OK || s.Room() != 0 {
		t.Errorf("From(0, none): %v, %v", s, e)
	}
}

// P12.1

func TestNew(t *testing.T) {
	for _, most := range []int{0, 1, 2, 3, 100, 255, 256, 1000, 1999, 2000} {
		s, e := spare.New(most)
		if s == nil || e != api.OK {
			t.Fatalf("New(%d): %v, %v", most, s, e)
		}
		w := &storeByWords{most: most}
		checkStore(t, "New", s, w)
		checkForget(t, s, w, 5)
		checkTake(t, s, w, api.Key{}, 0)
	}
	for _, most := range slices.Concat(below, above) {
		if s, e := spare.New(most); s != nil || e != api.ErrArg {
			t.Errorf("New(%d): %v, %v", most, s, e)
		}
	}
}

func TestFrom(t *testing.T) {
	d := newDrawer(600)
	for _, n := range []int{0, 1, 2, 3, 10, 100, 1999, 2000} {
		l := d.spares(n)
		for _, most := range []int{0, 1, n - 1, n, n + 1, 2 * n, 1999, 2000} {
			switch {
			case most < 0 || most > mostStore:
			case n > most:
				if s, e := spare.From(most, l); s != nil || e != api.ErrStore {
					t.Fatalf("From(%d, of %d): %v, %v", most, n, s, e)
				}
			default:
				s, w := both(t, most, l)
				checkLists(t, "From", s, w)
			}
		}
	}
}

// The bound is asked first, then what meets, then the room.
func TestFromRefused(t *testing.T) {
	one, other := api.Spare{Header: h, N: 7, Message: a}, api.Spare{Header: k, N: 7, Message: a}
	meeting := api.Spare{Header: h, N: 7, Message: b}
	for _, x := range []struct {
		most int
		l    []api.Spare
		want api.Errno
	}{
		{-1, nil, api.ErrArg},
		{2001, nil, api.ErrArg},
		{-1, list(one), api.ErrArg},
		{-1, list(one, meeting), api.ErrArg},
		{2001, list(one, meeting), api.ErrArg},
		{2001, newDrawer(601).spares(2002), api.ErrArg},
		{0, list(one, meeting), api.ErrTwice},
		{1, list(one, meeting), api.ErrTwice},
		{1, list(one, one), api.ErrTwice},
		{1, list(one, other, one), api.ErrTwice},
		{2000, list(one, other, meeting), api.ErrTwice},
		{2000, append(newDrawer(602).spares(2000), one, one), api.ErrTwice},
		{2000, newDrawer(603).spares(2001), api.ErrStore},
		{0, list(one), api.ErrStore},
		{1, list(one, other), api.ErrStore},
	} {
		if s, e := spare.From(x.most, x.l); s != nil || e != x.want {
			t.Errorf("From(%d, of %d): %v, not %v", x.most, len(x.l), e, x.want)
		}
	}
	for _, most := range slices.Concat(below, above) {
		if s, e := spare.From(most, list(one, one)); s != nil || e != api.ErrArg {
			t.Errorf("From(%d, of two that meet): %v", most, e)
		}
	}
}

// P12.2

func TestHeaders(t *testing.T) {
	keys := []api.Key{{0: 1}, {31: 1}, {}, {15: 0x80}}
	of := func(places ...int) []api.Spare {
		var l []api.Spare
		for i, p := range places {
			l = append(l, api.Spare{Header: keys[p], N: uint32(i), Message: api.Key{byte(i)}})
		}
		return l
	}
	for _, x := range []struct{ places, want []int }{
		{nil, nil},
		{[]int{2}, []int{2}},
		{[]int{1, 1, 1}, []int{1}},
		{[]int{3, 0, 3, 1, 0, 2, 3}, []int{3, 0, 1, 2}},
		{[]int{0, 1, 0, 1, 2, 0, 1}, []int{0, 1, 2}},
		{[]int{2, 2, 1, 2, 0, 1}, []int{2, 1, 0}},
	} {
		s, w := both(t, 9, of(x.places...))
		var want []api.Key
		for _, p := range x.want {
			want = append(want, keys[p])
		}
		if got := s.Headers(); !slices.Equal(got, want) {
			t.Errorf("%v: Headers %x", x.places, got)
		}
		checkStore(t, "From", s, w)
	}
}

// With the oldest spare of a header key, the key's place goes to where its next one stands.
func TestHeadersBehindTakeAndForget(t *testing.T) {
	s, w := both(t, 9, list(
		api.Spare{Header: h, N: 1, Message: a}, api.Spare{Header: k, N: 1, Message: b},
		api.Spare{Header: api.Key{3}, N: 9, Message: b}, api.Spare{Header: h, N: 2, Message: c}, api.Spare{Header: k, N: 2, Message: c}))
	for _, x := range []struct {
		call func()
		want []api.Key
	}{
		{func() { s.Take(h, 1); w.take(h, 1) }, []api.Key{k, {3}, h}},
		{func() { s.Forget(1); w.forget(1) }, []api.Key{{3}, h, k}},
		{func() {
			s.Put(list(api.Spare{Header: api.Key{3}, N: 8}))
			w.put(list(api.Spare{Header: api.Key{3}, N: 8}))
		}, []api.Key{{3}, h, k}},
		{func() { s.Take(api.Key{3}, 9); w.take(api.Key{3}, 9) }, []api.Key{h, k, {3}}},
		{func() { s.Take(h, 2); w.take(h, 2) }, []api.Key{k, {3}}},
		{func() { s.Forget(5); w.forget(5) }, nil},
	} {
		x.call()
		if got := s.Headers(); !slices.Equal(got, x.want) {
			t.Fatalf("Headers %x, not %x", got, x.want)
		}
		checkStore(t, "behind the call", s, w)
	}
}

func TestHeadersOfMany(t *testing.T) {
	d := newDrawer(604)
	var l []api.Spare
	for range mostStore {
		l = append(l, api.Spare{Header: d.key(), N: 5, Message: d.key()})
	}
	s, w := both(t, mostStore, l)
	checkLists(t, "2000 header keys", s, w)
	for i := range l {
		l[i].Header, l[i].N = h, uint32(i)
	}
	s, w = both(t, mostStore, l)
	checkLists(t, "one header key", s, w)
}

// Whatever is called, one behind the other: P12.2 to P12.9.
func TestAnyCalls(t *testing.T) {
	d := newDrawer(605)
	for range 600 {
		most := d.Intn(14)
		s, w := both(t, most, nil)
		for range 60 {
			s, w = anyCall(t, d, s, w)
		}
	}
}

// anyCall makes a drawn call on both; the store behind it may be another one that must answer alike.
func anyCall(t *testing.T, d drawer, s *spare.Store, w *storeByWords) (*spare.Store, *storeByWords) {
	t.Helper()
	x := d.near()
	switch d.Intn(10) {
	case 0, 1, 2:
		checkPut(t, s, w, list(x))
	case 3, 4:
		checkPut(t, s, w, d.nears(5))
	case 5:
		checkFind(t, s, w, x.Header, x.N)
	case 6, 7:
		checkTake(t, s, w, x.Header, x.N)
	case 8:
		checkForget(t, s, w, d.Intn(6)-2)
	case 9:
		if d.Intn(2) == 0 {
			return s.Clone(), w
		}
		return both(t, w.most, s.List())
	}
	return s, w
}
