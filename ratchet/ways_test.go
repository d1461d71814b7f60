package ratchet_test

import (
	"math"
	"slices"
	"testing"

	"pawl/api"
)

// P13.4 and P13.5: the three ways of a message, what each refuses and in which order, and what it leaves.

// Spare: at each place of the store; the others stay in their order.
func TestOpenBySpare(t *testing.T) {
	d := newDrawer(730)
	s := d.full(api.Config{Version: 1, Skip: 3, Store: 20}, 20)
	for i, one := range s.Spares {
		l := letterTo(s, one.Header, api.Header{Public: d.key(), Prev: d.Uint32(), N: one.N})
		place := slices.Index(candidatesByWords(s), one.Header) + 1
		opens(t, s, l, place, 0)
		x := from(t, s)
		e := l.envelope([]byte("said"), []byte("x"))
		x.refuses(t, e, nil, api.ErrBody, place, 0)
		x.hears(t, e, "said", place, 0)
		want := copied(s)
		want.Spares = slices.Delete(want.Spares, i, i+1)
		if !same(x.r.State(), want) {
			t.Fatalf("behind the spare number %d: %+v", i, x.r.State())
		}
	}
}

// A spare comes ahead of all that its header key would otherwise be looked at for.
func TestOpenBySpareAheadOfAll(t *testing.T) {
	d := newDrawer(731)
	c := api.Config{Version: 2, Skip: 1, Store: 1}
	s := d.full(c, 1)
	for _, n := range []uint32{0, s.RecvN - 1, s.RecvN, s.RecvN + 1, s.RecvN + 100, mostCount} {
		for _, under := range []api.Key{s.RecvHeader, s.NextRecv, d.key()} {
			s.Spares = []api.Spare{{Header: under, N: n, Message: d.key()}}
			x := from(t, s)
			l := letterTo(s, under, api.Header{N: n, Prev: mostCount}) // its public key is weak, its Prev too far
			x.hears(t, l.envelope([]byte("said"), []byte("x")), "said", 1, 0)
			if got := x.r.State(); len(got.Spares) != 0 || got.RecvN != s.RecvN || got.Recv != s.Recv || got.Turn || got.Root != s.Root {
				t.Errorf("behind a spare of %d: %+v", n, got)
			}
		}
	}
	alice := states(d)["alice"]
	alice.Spares = []api.Spare{{Header: alice.NextRecv, N: 3, Message: d.key()}}
	opens(t, alice, letterTo(alice, alice.NextRecv, api.Header{N: 3}), 1, 0)
	refused(t, alice, letterTo(alice, alice.NextRecv, api.Header{N: 4}), api.ErrState, 1)
}

// Chain: N below, at and beyond RecvN, and RecvN and Skip.
func TestOpenByChain(t *testing.T) {
	d := newDrawer(732)
	for _, skip := range []int{0, 1, 2, 5, 1000} {
		s := d.full(api.Config{Version: 1, Skip: skip, Store: 2000}, 0)
		s.RecvN = 9
		at := func(n uint32) letter {
			return letterTo(s, s.RecvHeader, api.Header{Public: d.key(), Prev: d.Uint32(), N: n})
		}
		for _, n := range []uint32{0, 1, 7, 8} {
			refused(t, s, at(n), api.ErrOld, 1)
		}
		for _, n := range []int{0, 1, 2, skip - 1, skip} {
			if n < 0 || n > skip {
				continue
			}
			opens(t, s, at(9+uint32(n)), 1, n+1)
			from(t, s).refuses(t, at(9+uint32(n)).envelope(nil, nil), []byte("y"), api.ErrBody, 1, n+1)
		}
		for _, n := range []uint32{9 + uint32(skip) + 1, 9 + uint32(skip) + 2, 3000, 1 << 16, 1 << 31, 1<<31 + 9, mostCount - 1} {
			refused(t, s, at(n), api.ErrSkip, 1)
		}
		refused(t, s, at(mostCount), api.ErrExhausted, 1)
	}
}

// The state behind a gap, told by its parts: the spares behind those that were, in their order.
func TestOpenByChainLeaves(t *testing.T) {
	d := newDrawer(733)
	s := d.full(api.Config{Version: 1, Skip: 3, Store: 9}, 2)
	x := from(t, s)
	x.hears(t, letterTo(s, s.RecvHeader, api.Header{N: 8}).envelope([]byte("b"), []byte("x")), "b", 2, 4)
	want := copied(s)
	for n := uint32(5); n < 8; n++ {
		var k api.Key
		want.Recv, k = stepByWords(want.Recv)
		want.Spares = append(want.Spares, api.Spare{Header: s.RecvHeader, N: n, Message: k})
	}
	want.Recv, _ = stepByWords(want.Recv)
	want.RecvN = 9
	if !same(x.r.State(), want) {
		t.Errorf("%+v, not %+v", x.r.State(), want)
	}
}

// At the counter's end.
func TestOpenByChainAtTheEnd(t *testing.T) {
	d := newDrawer(734)
	s := d.full(api.Config{Version: 1, Skip: 1000, Store: 2000}, 0)
	at := func(n uint32) letter { return letterTo(s, s.RecvHeader, api.Header{N: n}) }
	for _, back := range []uint32{0, 1, 2, 3, 999, 1000, 1001} {
		s.RecvN = mostCount - back
		refused(t, s, at(mostCount), api.ErrExhausted, 1)
		refused(t, s, at(s.RecvN-1), api.ErrOld, 1)
		refused(t, s, at(0), api.ErrOld, 1)
		if back > 0 {
			opens(t, s, at(s.RecvN), 1, 1)
		}
		if back > 1 {
			opens(t, s, at(mostCount-1), 1, int(back))
		}
	}
	s.RecvN = mostCount - 1
	x := from(t, s)
	e := at(mostCount-1).envelope([]byte("last"), []byte("x"))
	x.hears(t, e, "last", 1, 1)
	if n := x.r.State().RecvN; n != mostCount {
		t.Errorf("RecvN is %d", n)
	}
	x.refuses(t, e, []byte("x"), api.ErrOld, 1, 0)
	s.Config.Skip, s.Config.Store = 0, 0
	s.RecvN = 1
	refused(t, s, at(mostCount), api.ErrExhausted, 1) // ahead of ErrSkip and ErrStore
}

// The store to its last place and one beyond; spares that meet; and which of the refusals comes first.
func TestOpenByChainIntoTheStore(t *testing.T) {
	d := newDrawer(735)
	s := d.full(api.Config{Version: 1, Skip: 4, Store: 6}, 3)
	at := func(s api.State, n uint32) letter { return letterTo(s, s.RecvHeader, api.Header{N: n}) }
	opens(t, s, at(s, 5), 2, 1)
	opens(t, s, at(s, 8), 2, 4)
	refused(t, s, at(s, 9), api.ErrStore, 2)
	refused(t, s, at(s, 10), api.ErrSkip, 2)
	s.Config.Store = 3
	opens(t, s, at(s, 5), 2, 1)
	refused(t, s, at(s, 6), api.ErrStore, 2)
	s.Config.Store = 4
	opens(t, s, at(s, 6), 2, 2)
	s.Config.Store = 9
	for n := uint32(0); n < 9; n++ { // a spare of the chain's own, ahead of where it stands, within the gap or beyond it
		s := copied(s)
		s.Spares[1] = api.Spare{Header: s.RecvHeader, N: n, Message: d.key()}
		if n < 5 || n > 7 {
			opens(t, s, letterTo(s, s.RecvHeader, api.Header{N: 8}), 2, map[bool]int{true: 4, false: 0}[n != 8])
			continue
		}
		refused(t, s, at(s, 8), api.ErrTwice, 2)
		s.Config.Store = 3 // nor is there room
		refused(t, s, at(s, 8), api.ErrTwice, 2)
		s.Config.Skip = 2 // nor may so many be skipped
		refused(t, s, at(s, 8), api.ErrSkip, 2)
		opens(t, s, letterTo(s, s.RecvHeader, api.Header{N: n}), 2, 0)
	}
	s.Spares[0].N, s.Spares[1].N, s.Spares[2].N = 5, 6, 7 // the numbers alone meet nothing
	opens(t, s, at(s, 8), 2, 4)
	big := d.full(api.Config{Version: 2, Skip: 1000, Store: 2000}, 1000)
	place := len(candidatesByWords(big)) - 1
	opens(t, big, at(big, 1005), place, 1001)
	big.Config.Store = 1999
	refused(t, big, at(big, 1005), api.ErrStore, place)
	opens(t, big, at(big, 1004), place, 1000)
}

// Turn: Prev below, at and above RecvN; m and N at and beyond Skip.
func TestOpenByTurn(t *testing.T) {
	d := newDrawer(736)
	for _, skip := range []int{0, 1, 2, 5} {
		s := d.full(api.Config{Version: 1, Skip: skip, Store: 20}, 0)
		s.RecvN = 9
		public := d.pair().Public
		at := func(prev, n uint32) letter {
			return letterTo(s, s.NextRecv, api.Header{Public: public, Prev: prev, N: n})
		}
		k := uint32(skip)
		for _, n := range []uint32{0, k / 2, k} {
			for _, prev := range []uint32{0, 1, 8, 9} {
				opens(t, s, at(prev, n), 2, int(n)+1)
			}
			for m := range k + 1 {
				opens(t, s, at(9+m, n), 2, int(m+n)+1)
				from(t, s).refuses(t, at(9+m, n).envelope(nil, nil), []byte("y"), api.ErrBody, 2, int(m+n)+1)
			}
			for _, prev := range []uint32{10 + k, 11 + k, 1 << 31, mostCount - 1, mostCount} {
				refused(t, s, at(prev, n), api.ErrSkip, 2)
			}
		}
		for _, n := range []uint32{k + 1, k + 2, 1 << 16, 1 << 31, mostCount - 1, mostCount} {
			refused(t, s, at(0, n), api.ErrSkip, 2)
			refused(t, s, at(9, n), api.ErrSkip, 2)
			refused(t, s, at(10+k, n), api.ErrSkip, 2)
		}
	}
	big := d.full(api.Config{Version: 2, Skip: 1000, Store: 2000}, 0)
	opens(t, big, letterTo(big, big.NextRecv, api.Header{Public: big.Peer, Prev: 1005, N: 1000}), 2, 2001)
	refused(t, big, letterTo(big, big.NextRecv, api.Header{Public: big.Peer, Prev: 1006, N: 1000}), api.ErrSkip, 2)
	refused(t, big, letterTo(big, big.NextRecv, api.Header{Public: big.Peer, Prev: 1005, N: 1001}), api.ErrSkip, 2)
	big.Config.Store = 1999
	refused(t, big, letterTo(big, big.NextRecv, api.Header{Public: big.Peer, Prev: 1005, N: 1000}), api.ErrStore, 2)
}

// The receiving chain at its end, and one that is not there: of that Prev is not looked at.
func TestOpenByTurnOfEnds(t *testing.T) {
	d := newDrawer(737)
	s := d.full(api.Config{Version: 1, Skip: 5, Store: 20}, 0)
	at := func(s api.State, prev, n uint32) letter {
		return letterTo(s, s.NextRecv, api.Header{Public: d.pair().Public, Prev: prev, N: n})
	}
	for back := range uint32(7) {
		s.RecvN = mostCount - back
		if back <= 5 {
			opens(t, s, at(s, mostCount, 2), 2, int(back)+3)
		} else {
			refused(t, s, at(s, mostCount, 2), api.ErrSkip, 2)
		}
		opens(t, s, at(s, s.RecvN-1, 2), 2, 3)
		opens(t, s, at(s, 0, 0), 2, 1)
	}
	for _, what := range []string{"bob", "sent"} {
		s := states(d)[what]
		s.Spares = nil
		for _, prev := range []uint32{0, 1, 5, 6, 1 << 31, mostCount} {
			opens(t, s, at(s, prev, 4), 1, 5)
			opens(t, s, at(s, prev, 0), 1, 1)
			refused(t, s, at(s, prev, 5), api.ErrSkip, 1)
		}
	}
}

// The state behind a turn, told by its parts.
func TestOpenByTurnLeaves(t *testing.T) {
	d := newDrawer(738)
	s := d.full(api.Config{Version: 1, Skip: 3, Store: 9}, 2)
	peer := d.pair()
	x := from(t, s)
	l := letterTo(s, s.NextRecv, api.Header{Public: peer.Public, Prev: 7, N: 1})
	x.hears(t, l.envelope([]byte("b"), []byte("x")), "b", 3, 4)
	want := copied(s)
	key := s.Recv
	var k api.Key
	for n := uint32(5); n < 7; n++ {
		key, k = stepByWords(key)
		want.Spares = append(want.Spares, api.Spare{Header: s.RecvHeader, N: n, Message: k})
	}
	secret, _ := sharedByWords(peer.Private, s.Own.Public)
	want.Root, key, want.NextRecv = rootByWords(s.Root, secret)
	key, k = stepByWords(key)
	want.Spares = append(want.Spares, api.Spare{Header: s.NextRecv, N: 0, Message: k})
	want.Recv, _ = stepByWords(key)
	want.RecvN, want.RecvHeader, want.Peer, want.Turn = 2, s.NextRecv, peer.Public, true
	if !same(x.r.State(), want) {
		t.Errorf("%+v, not %+v", x.r.State(), want)
	}
}

// Without a pair, ahead of all else that is wrong; then the store, and only then a weak key.
func TestOpenByTurnRefuses(t *testing.T) {
	d := newDrawer(739)
	alice := states(d)["alice"]
	for _, head := range []api.Header{{Public: d.key()}, {Public: d.key(), N: mostCount}, {N: 50}, {}, {Prev: mostCount}} {
		refused(t, alice, letterTo(alice, alice.NextRecv, head), api.ErrState, 1)
	}
	alice.Spares = []api.Spare{{Header: alice.NextRecv, N: 0, Message: d.key()}}
	refused(t, alice, letterTo(alice, alice.NextRecv, api.Header{N: 2}), api.ErrState, 1)
	s := d.full(api.Config{Version: 1, Skip: 4, Store: 8}, 3)
	at := func(s api.State, public api.Key, prev, n uint32) letter {
		return letterTo(s, s.NextRecv, api.Header{Public: public, Prev: prev, N: n})
	}
	strong := d.pair().Public
	opens(t, s, at(s, strong, 7, 3), 3, 6)
	opens(t, s, at(s, strong, 9, 1), 3, 6)
	for _, public := range append(weakKeys(), strong) {
		refused(t, s, at(s, public, 8, 3), api.ErrStore, 3)
		refused(t, s, at(s, public, 9, 4), api.ErrStore, 3)
		refused(t, s, at(s, public, 10, 4), api.ErrSkip, 3)
		refused(t, s, at(s, public, 9, 5), api.ErrSkip, 3)
	}
	for _, public := range weakKeys() {
		refused(t, s, at(s, public, 7, 3), api.ErrWeak, 3)
		refused(t, s, at(s, public, 0, 0), api.ErrWeak, 3)
		for what, s := range states(d) {
			if s.HasOwn {
				refused(t, s, at(s, public, s.RecvN, 0), api.ErrWeak, len(candidatesByWords(s)))
			} else if what != "alice" {
				t.Error(what)
			}
		}
	}
	s.Config.Store = 3
	opens(t, s, at(s, strong, 5, 0), 3, 1)
	refused(t, s, at(s, strong, 6, 0), api.ErrStore, 3)
	refused(t, s, at(s, strong, 5, 1), api.ErrStore, 3)
}

// Spares that meet those of the gap in the chain that ends, or of the one that begins: refused ahead of the room and of a weak key, behind Skip.
func TestOpenByTurnOfSparesThatMeet(t *testing.T) {
	d := newDrawer(740)
	s := d.full(api.Config{Version: 1, Skip: 4, Store: 12}, 3)
	strong := d.pair().Public
	for n := range uint32(11) {
		for _, under := range []api.Key{s.RecvHeader, s.NextRecv} {
			s := copied(s)
			s.Spares[2] = api.Spare{Header: under, N: n, Message: d.key()}
			trials := slices.Index(candidatesByWords(s), s.NextRecv) + 1
			at := func(public api.Key) letter {
				return letterTo(s, s.NextRecv, api.Header{Public: public, Prev: 8, N: 3})
			}
			switch {
			case under == s.RecvHeader && n >= 5 && n < 8, under == s.NextRecv && n < 3:
				refused(t, s, at(strong), api.ErrTwice, trials)
				s.Config.Store = 3
				refused(t, s, at(strong), api.ErrTwice, trials)
				refused(t, s, at(api.Key{}), api.ErrTwice, trials)
				s.Config.Skip = 2
				refused(t, s, at(api.Key{}), api.ErrSkip, trials)
			case under == s.NextRecv && n == 3:
				opens(t, s, at(strong), trials, 0)
			default:
				opens(t, s, at(strong), trials, 7)
				refused(t, s, at(api.Key{}), api.ErrWeak, trials)
				s.Config.Store = 3
				refused(t, s, at(api.Key{}), api.ErrStore, trials)
			}
		}
	}
}

// Header keys that are alike: that of the receiving chain decides ahead of the next one; without a chain its key of zeros is not asked.
func TestOpenOfHeaderKeysAlike(t *testing.T) {
	d := newDrawer(741)
	s := d.full(api.Config{Version: 1, Skip: 4, Store: 9}, 0)
	s.NextRecv = s.RecvHeader
	l := letterTo(s, s.RecvHeader, api.Header{Public: d.key(), Prev: mostCount, N: 6})
	opens(t, s, l, 1, 2)
	refused(t, s, letterTo(s, s.RecvHeader, api.Header{Public: d.key(), N: 0}), api.ErrOld, 1)
	s = states(d)["bob"]
	s.NextRecv = api.Key{}
	opens(t, s, letterTo(s, api.Key{}, api.Header{Public: d.pair().Public, Prev: 7, N: 1}), 1, 2)
}

// Old: a header key that only spares have, and a number that none of them has, whatever else stands in the header.
func TestOpenOfAnOldOne(t *testing.T) {
	d := newDrawer(742)
	s := d.full(api.Config{Version: 1, Skip: 4, Store: 20}, 10)
	for i, one := range s.Spares {
		for _, n := range []uint32{one.N + 100, 1 << 31, mostCount - 1, mostCount} {
			l := letter{1, one.Header, api.Header{N: n, Prev: d.Uint32()}, one.Message}
			refused(t, s, l, api.ErrOld, slices.Index(candidatesByWords(s), s.Spares[i].Header)+1)
		}
	}
	gone := s
	gone.Spares = s.Spares[:6]
	refused(t, gone, letter{1, s.Spares[0].Header, api.Header{N: 6}, d.key()}, api.ErrOld, 1)
	gone.Spares = nil
	refused(t, gone, letter{1, s.Spares[0].Header, api.Header{N: 0}, s.Spares[0].Message}, api.ErrHeader, 2)
}

// P13.5

func TestForget(t *testing.T) {
	d := newDrawer(743)
	for _, n := range []int{0, 1, 2, 20} {
		s := d.full(api.Config{Version: 1, Skip: 4, Store: 20}, n)
		for _, k := range []int{math.MinInt, -1 << 32, -1<<32 + 1, -2, -1, 0, 1, 2, n / 2, n - 1, n, n + 1, 2 * n, 1 << 32, math.MaxInt} {
			x := from(t, s)
			gone := x.forget(t, k)
			if want := min(max(k, 0), n); gone != want {
				t.Fatalf("Forget(%d) of %d: %d", k, n, gone)
			}
			want := copied(s)
			want.Spares = want.Spares[gone:]
			if !same(x.r.State(), want) {
				t.Fatalf("Forget(%d) of %d leaves %+v", k, n, x.r.State())
			}
			for i, one := range s.Spares {
				e := letter{1, one.Header, api.Header{N: one.N}, one.Message}.envelope([]byte("said"), []byte("x"))
				body, work, why := x.open(t, e, []byte("x"))
				if i < gone && why != api.ErrOld && why != api.ErrHeader || i >= gone && (why != api.OK || string(body) != "said" || work.Steps != 0) {
					t.Fatalf("behind Forget(%d) the spare number %d: %q, %v", k, i, body, why)
				}
			}
		}
	}
}

// What is forgotten makes room.
func TestForgetMakesRoom(t *testing.T) {
	d := newDrawer(744)
	s := d.full(api.Config{Version: 1, Skip: 5, Store: 6}, 4)
	x := from(t, s)
	e := letterTo(s, s.RecvHeader, api.Header{N: 9}).envelope([]byte("said"), []byte("x"))
	x.refuses(t, e, []byte("x"), api.ErrStore, 2, 0)
	if x.forget(t, 1) != 1 {
		t.Fatal("Forget")
	}
	x.refuses(t, e, []byte("x"), api.ErrStore, 2, 0)
	if x.forget(t, 1) != 1 {
		t.Fatal("Forget")
	}
	x.hears(t, e, "said", 2, 5)
	if x.forget(t, 9) != 6 || x.forget(t, 1) != 0 {
		t.Fatal("Forget of all")
	}
}
