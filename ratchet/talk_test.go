package ratchet_test

import (
	"slices"
	"testing"

	"pawl/api"
	"pawl/ratchet"
)

// P13.6, P13.7, P13.8, P13.10: what it comes to where two sides talk.

// sentOne is an envelope on its way, and what it was made of.
type sentOne struct {
	e           api.Envelope
	body, extra []byte
	first       bool // it begins a new chain
}

// says seals something drawn that must be sealed.
func (x duo) says(t *testing.T, d drawer) sentOne {
	t.Helper()
	one := sentOne{body: d.bytes(d.Intn(90)), extra: d.bytes(d.Intn(20)), first: x.w.s.Turn}
	one.e = x.sealed(t, one.body, one.extra, d.bytes(32))
	return one
}

// takes opens one that must be heard, and gives the work.
func (x duo) takes(t *testing.T, one sentOne) api.Work {
	t.Helper()
	body, work, why := x.open(t, one.e, one.extra)
	if why != api.OK || string(body) != string(one.body) {
		t.Fatalf("Open: %x, %v, not %x", body, why, one.body)
	}
	return work
}

// gone holds that one that was taken is not taken again.
func (x duo) gone(t *testing.T, one sentOne) {
	t.Helper()
	trials := len(candidatesByWords(x.w.s))
	_, work, why := x.open(t, one.e, one.extra)
	if why != api.ErrOld && (why != api.ErrHeader || work.Trials != trials) || work.Steps != 0 {
		t.Fatalf("Open of one that was taken: %v, %v", work, why)
	}
}

var configs = []api.Config{{Version: 1, Skip: 2, Store: 3}, {Version: 2, Skip: 0, Store: 0}, {Version: 2, Skip: 1000, Store: 2000}}

// P13.7: in order, none lost, whoever writes how many ahead of the other.
func TestHeardInOrder(t *testing.T) {
	d := newDrawer(750)
	for _, c := range configs {
		alice, bob := sides(t, c)
		a, b := alice, bob
		for range 12 {
			for range 1 + d.Intn(3) {
				one := a.says(t, d)
				had := b.w.s.HasRecv
				want := api.Work{Trials: 1, Steps: 1}
				if one.first && had {
					want.Trials = 2
				}
				if work := b.takes(t, one); work != want {
					t.Fatalf("the work is %v, not %v", work, want)
				}
				if one.first && !b.r.State().Turn || len(b.r.State().Spares) > 0 {
					t.Fatalf("behind a message of a new chain: %+v", b.r.State())
				}
				b.gone(t, one)
			}
			a, b = b, a
		}
	}
}

// Both write at one time, and hear each other in order; each message still takes one step.
func TestHeardInOrderByBoth(t *testing.T) {
	d := newDrawer(751)
	for _, c := range configs {
		alice, bob := sides(t, c)
		bob.takes(t, alice.says(t, d))
		var toAlice, toBob []sentOne
		for range 120 {
			switch d.Intn(4) {
			case 0:
				toBob = append(toBob, alice.says(t, d))
			case 1:
				toAlice = append(toAlice, bob.says(t, d))
			case 2:
				toAlice = hearsNext(t, alice, toAlice)
			case 3:
				toBob = hearsNext(t, bob, toBob)
			}
		}
	}
}

// hearsNext takes the first that is on its way.
func hearsNext(t *testing.T, x duo, l []sentOne) []sentOne {
	t.Helper()
	if len(l) == 0 {
		return l
	}
	want := api.Work{Trials: 1, Steps: 1}
	if l[0].first && x.w.s.HasRecv {
		want.Trials = 2
	}
	if work := x.takes(t, l[0]); work != want {
		t.Fatalf("the work is %v, not %v", work, want)
	}
	if l[0].first && !x.r.State().Turn {
		t.Fatal("no turn behind a message of a new chain")
	}
	x.gone(t, l[0])
	return l[1:]
}

// orders are all orders of so many.
func orders(n int) [][]int {
	if n == 0 {
		return [][]int{nil}
	}
	var out [][]int
	for _, l := range orders(n - 1) {
		for i := range n {
			out = append(out, slices.Insert(slices.Clone(l), i, n-1))
		}
	}
	return out
}

// P3 and P7: two chains' messages in any order are all heard, once, and come to one state.
func TestHeardInAnyOrder(t *testing.T) {
	d := newDrawer(752)
	alice, bob := sides(t, api.Config{Version: 2, Skip: 3, Store: 6})
	bob.takes(t, alice.says(t, d))
	way := []sentOne{alice.says(t, d), alice.says(t, d)}
	alice.takes(t, bob.says(t, d))
	way = append(way, alice.says(t, d), alice.says(t, d), alice.says(t, d))
	var end *api.State
	for _, order := range orders(len(way)) {
		x := from(t, bob.r.State())
		for i, at := range order {
			x.takes(t, way[at])
			for _, behind := range order[:i+1] {
				x.gone(t, way[behind])
			}
		}
		s := x.r.State()
		if end == nil {
			end = &s
		}
		if !same(s, *end) || len(s.Spares) != 0 || s.RecvN != 3 {
			t.Fatalf("in the order %v it comes to %+v", order, s)
		}
	}
}

// P13.6: a side that was laid down at any time, and taken up again, is the same one.
func TestGoesOnAlike(t *testing.T) {
	d := newDrawer(753)
	alice, bob := sides(t, api.Config{Version: 1, Skip: 4, Store: 6})
	var toBob, toAlice []sentOne
	for i := range 150 {
		for _, x := range []*duo{&alice, &bob} {
			if i%3 == 0 {
				s := x.r.State()
				if why := ratchet.Check(s); why != api.OK {
					t.Fatalf("Check(State()): %v", why)
				}
				again := from(t, s)
				again.w = x.w // what the words make of it goes on
				*x = again
			}
		}
		if alice.w.s.Turn || d.coin() {
			toBob = append(toBob, alice.says(t, d))
		}
		if len(toBob) > 0 {
			at := d.Intn(len(toBob))
			bob.open(t, toBob[at].e, toBob[at].extra)
		}
		if bob.w.s.HasPeer && d.coin() {
			toAlice = append(toAlice, bob.says(t, d))
			at := d.Intn(len(toAlice))
			alice.open(t, toAlice[at].e, toAlice[at].extra)
		}
		bob.forget(t, d.Intn(8)-6)
	}
}

// P13.10: what is sealed between changes nothing of what is heard, and the other way round.
func TestBothWays(t *testing.T) {
	d := newDrawer(754)
	alice, bob := sides(t, api.Config{Version: 1, Skip: 4, Store: 6})
	bob.takes(t, alice.says(t, d))
	alice.takes(t, bob.says(t, d))
	var way []sentOne
	for range 6 {
		way = append(way, alice.says(t, d))
	}
	for _, many := range []int{0, 1, 5} {
		x := from(t, bob.r.State())
		sent, prev := uint32(1), uint32(0) // one he had sealed ahead of all this
		for i, one := range way {
			for range many {
				if h := x.headOf(t, x.says(t, d).e); h.N != sent || h.Prev != prev {
					t.Fatalf("%d between two: the header %v, not the number %d behind %d", many, h, sent, prev)
				}
				sent++
			}
			if work := x.takes(t, one); work.Steps != 1 {
				t.Fatalf("%d between two: %v", many, work)
			}
			if s := x.r.State(); s.RecvN != uint32(i)+1 || len(s.Spares) != 0 {
				t.Fatalf("%d between two: %+v", many, s)
			}
			if i == 0 { // a new chain came: so one begins here
				sent, prev = 0, sent
			}
		}
	}
}

// A side that only writes, and one that only hears, go on without end.
func TestOneWay(t *testing.T) {
	d := newDrawer(755)
	alice, bob := sides(t, api.Config{Version: 2})
	for i := range uint32(300) {
		one := alice.says(t, d)
		if h := alice.headOf(t, one.e); h.N != i || h.Prev != 0 {
			t.Fatalf("the header number %d: %v", i, h)
		}
		if work := bob.takes(t, one); work != (api.Work{Trials: 1, Steps: 1}) {
			t.Fatal(work)
		}
	}
}

// Messages of a chain that is long gone are old or unknown; their spares, as long as they are kept, are heard.
func TestSparesOfOlderChains(t *testing.T) {
	d := newDrawer(756)
	alice, bob := sides(t, api.Config{Version: 1, Skip: 3, Store: 12})
	var kept []sentOne
	for range 6 {
		late := alice.says(t, d)
		kept = append(kept, late)
		bob.takes(t, alice.says(t, d))
		alice.takes(t, bob.says(t, d))
	}
	if n := len(bob.r.State().Spares); n != 6 {
		t.Fatalf("%d spares", n)
	}
	forgot := from(t, bob.r.State())
	forgot.forget(t, 2)
	for i, one := range kept {
		bob.takes(t, one)
		bob.gone(t, one)
		if i < 2 {
			forgot.gone(t, one)
		} else {
			forgot.takes(t, one)
		}
	}
}

// Two who have other keys, or other extras, hear nothing of one another.
func TestOthersHearNothing(t *testing.T) {
	d := newDrawer(757)
	alice, bob := sides(t, api.Config{Version: 1, Skip: 3, Store: 12})
	one := alice.says(t, d)
	for i, change := range []func(s *api.State){
		func(s *api.State) { s.NextRecv[5] ^= 1 },
		func(s *api.State) { s.Root[5] ^= 1 },
		func(s *api.State) { s.Own = d.pair() },
	} {
		s := bob.r.State()
		change(&s)
		_, work, why := from(t, s).open(t, one.e, one.extra)
		want, steps := api.ErrBody, 1
		if i == 0 {
			want, steps = api.ErrHeader, 0
		}
		if why != want || work != (api.Work{Trials: 1, Steps: steps}) {
			t.Errorf("number %d: %v, %v", i, work, why)
		}
	}
	bob.takes(t, one)
	alice.refuses(t, alice.says(t, d).e, nil, api.ErrHeader, 1, 0) // nor does one hear oneself
}
