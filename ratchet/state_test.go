package ratchet_test

import (
	"math"
	"slices"
	"testing"

	"pawl/api"
	"pawl/ratchet"
)

// P13.1 and P13.2

var good = api.Config{Version: 2, Skip: 4, Store: 9}

// wrongVersions are those that are not known, those among them that come to known ones if bits are lost.
var wrongVersions = []int{math.MinInt, math.MinInt + 1, -1<<32 + 1, -256 + 1, -255, -2, -1, 0, 3, 4, 255, 256, 257, 258, 1<<16 + 1, 1<<32 + 1, 1<<32 + 2, math.MaxInt}

// outside are numbers below 0 and above a bound, those among them that come to good ones if bits are lost.
func outside(most int) []int {
	return []int{math.MinInt, math.MinInt + 3, -1 << 32, -1<<32 + 3, -most, -2, -1, most + 1, most + 2, 1 << 16, 1<<31 - 1, 1 << 31, 1 << 32, 1<<32 + 3, 1<<40 + 3, math.MaxInt}
}

// checks holds that a state is answered so, by Check and by From, and as the words have it.
func checks(t *testing.T, what string, s api.State, want api.Errno) {
	t.Helper()
	if by := checkByWords(s); by != want {
		t.Fatalf("%s: the words say %v, not %v", what, by, want)
	}
	if got := ratchet.Check(s); got != want {
		t.Errorf("%s: Check: %v, not %v", what, got, want)
	}
	r, e := ratchet.From(s)
	if e != want || (r == nil) != (want != api.OK) {
		t.Errorf("%s: From: %v, %v, not %v", what, r, e, want)
	}
	if want == api.OK && !same(r.State(), s) {
		t.Errorf("%s: State is %+v", what, r.State())
	}
}

// The states that the chapter's sides go through.
func states(d drawer) map[string]api.State {
	full := d.full(good, 5)
	alice := api.State{Config: good, Root: full.Root, Peer: full.Peer, HasPeer: true, Turn: true, NextSend: full.NextSend, NextRecv: full.NextRecv}
	bob := api.State{Config: good, Root: full.Root, Own: full.Own, HasOwn: true, NextSend: full.NextSend, NextRecv: full.NextRecv}
	sent := full
	sent.Recv, sent.RecvHeader, sent.RecvN, sent.HasRecv = api.Key{}, api.Key{}, 0, false
	heard := full
	heard.Send, heard.SendHeader, heard.SendN, heard.Prev, heard.HasSend, heard.Turn = api.Key{}, api.Key{}, 0, 0, false, true
	turn := full
	turn.Turn = true
	sentTurn := sent
	sentTurn.Turn = true
	return map[string]api.State{"alice": alice, "bob": bob, "sent": sent, "heard": heard, "full": full, "turn": turn, "sent, with the turn": sentTurn}
}

func TestStatesThatCanBe(t *testing.T) {
	d := newDrawer(700)
	for range 5 {
		for what, s := range states(d) {
			checks(t, what, s, api.OK)
			s.Spares = nil
			checks(t, what+" without spares", s, api.OK)
			s.Config = api.Config{Version: 1}
			checks(t, what+" of the least config", s, api.OK)
			s.Config = api.Config{Version: 2, Skip: mostSkip, Store: mostStore}
			checks(t, what+" of the greatest config", s, api.OK)
		}
	}
	full := d.full(good, 0)
	full.SendN, full.RecvN, full.Prev = mostCount, mostCount, mostCount
	checks(t, "counters at their ends", full, api.OK)
	full.Root, full.Send, full.SendHeader, full.NextSend, full.Recv, full.RecvHeader, full.NextRecv = api.Key{}, api.Key{}, api.Key{}, api.Key{}, api.Key{}, api.Key{}, api.Key{}
	full.Peer, full.SendN, full.RecvN, full.Prev = api.Key{}, 0, 0, 0
	checks(t, "keys of zeros", full, api.OK)
}

// Each single condition, broken.
func TestStatesThatCantBe(t *testing.T) {
	d := newDrawer(701)
	all := states(d)
	for _, x := range []struct {
		what, of string
		spoil    func(s *api.State)
	}{
		{"no own pair, a private key", "alice", func(s *api.State) { s.Own.Private[31] = 1 }},
		{"no own pair, a public key", "alice", func(s *api.State) { s.Own.Public[0] = 1 }},
		{"no own pair, a whole one", "alice", func(s *api.State) { s.Own = d.pair() }},
		{"a private key that is not clamped at its beginning", "bob", func(s *api.State) { s.Own.Private[0] |= 1 }},
		{"nor in its third bit", "bob", func(s *api.State) { s.Own.Private[0] |= 4 }},
		{"nor at its end", "bob", func(s *api.State) { s.Own.Private[31] |= 128 }},
		{"nor in the bit ahead of it", "bob", func(s *api.State) { s.Own.Private[31] &^= 64 }},
		{"another public key", "bob", func(s *api.State) { s.Own.Public[31] ^= 1 }},
		{"a public key in another form", "bob", func(s *api.State) { s.Own.Public[31] ^= 128 }},
		{"another private key", "full", func(s *api.State) { s.Own.Private[16] ^= 1 }},
		{"a pair of zeros", "bob", func(s *api.State) { s.Own = api.Pair{} }},
		{"no peer, a key", "bob", func(s *api.State) { s.Peer[31] = 128 }},
		{"no peer, the turn", "bob", func(s *api.State) { s.Turn = true }},
		{"no peer, a sending chain", "bob", func(s *api.State) { s.HasSend = true }},
		{"no peer, a receiving chain", "bob", func(s *api.State) { s.HasRecv = true }},
		{"no peer, both chains", "full", func(s *api.State) { s.Peer, s.HasPeer = api.Key{}, false }},
		{"a peer, neither turn nor chain", "bob", func(s *api.State) { s.HasPeer, s.Peer = true, d.key() }},
		{"a peer, a receiving chain alone", "heard", func(s *api.State) { s.Turn = false }},
		{"a sending chain without a pair", "sent", func(s *api.State) { s.HasOwn, s.Own = false, api.Pair{} }},
		{"a receiving chain without a pair", "heard", func(s *api.State) { s.HasOwn, s.Own = false, api.Pair{} }},
		{"no sending chain, a key", "heard", func(s *api.State) { s.Send[31] = 1 }},
		{"no sending chain, a header key", "heard", func(s *api.State) { s.SendHeader[0] = 1 }},
		{"no sending chain, a number", "heard", func(s *api.State) { s.SendN = 1 }},
		{"no sending chain, a great number", "heard", func(s *api.State) { s.SendN = 1 << 31 }},
		{"no sending chain, a number ahead", "alice", func(s *api.State) { s.Prev = 1 }},
		{"no sending chain, a great number ahead", "bob", func(s *api.State) { s.Prev = mostCount }},
		{"no receiving chain, a key", "sent", func(s *api.State) { s.Recv[31] = 1 }},
		{"no receiving chain, a header key", "sent", func(s *api.State) { s.RecvHeader[0] = 1 }},
		{"no receiving chain, a number", "sent", func(s *api.State) { s.RecvN = 1 }},
		{"no receiving chain, a great number", "alice", func(s *api.State) { s.RecvN = mostCount }},
		{"more spares than may be", "full", func(s *api.State) { s.Config.Store = 4 }},
		{"spares where none may be", "full", func(s *api.State) { s.Config.Store, s.Spares = 0, s.Spares[:1] }},
		{"two spares that meet", "full", func(s *api.State) { s.Spares = append(slices.Clone(s.Spares), s.Spares[2]) }},
		{"of other keys", "bob", func(s *api.State) { s.Spares = []api.Spare{{N: 3, Message: d.key()}, {N: 3, Message: d.key()}} }},
		{"and more than may be", "full", func(s *api.State) { s.Config.Store, s.Spares = 5, append(slices.Clone(s.Spares), s.Spares[0]) }},
	} {
		s := copied(all[x.of])
		checks(t, x.of, s, api.OK)
		x.spoil(&s)
		checks(t, x.what, s, api.ErrState)
	}
}

// Every mixture of what is there and what is told, against the words.
func TestStatesOfAllKinds(t *testing.T) {
	d := newDrawer(702)
	own := d.pair()
	owns := []api.Pair{{}, own, {Private: own.Private}, {Private: own.Private, Public: d.key()}}
	seen := map[api.Errno]int{}
	for flags := range 32 {
		for told := range 256 {
			s := api.State{Config: good, Root: d.key(), NextSend: d.key(), NextRecv: d.key()}
			for i, p := range []*bool{&s.HasOwn, &s.HasPeer, &s.Turn, &s.HasSend, &s.HasRecv} {
				*p = flags>>i&1 == 1
			}
			for i, p := range []*api.Key{&s.Peer, &s.Send, &s.SendHeader, &s.Recv, &s.RecvHeader} {
				if told>>i&1 == 1 {
					*p = d.key()
				}
			}
			for i, p := range []*uint32{&s.SendN, &s.Prev, &s.RecvN} {
				*p = uint32(told >> (5 + i) & 1)
			}
			for i, pair := range owns {
				if s.Own = pair; i > 1 && d.Intn(4) > 0 { // the curve's work is dear
					continue
				}
				want := checkByWords(s)
				if got := ratchet.Check(s); got != want {
					t.Fatalf("%+v: %v, not %v", s, got, want)
				}
				seen[want]++
			}
		}
	}
	if seen[api.OK] < 500 || seen[api.ErrState] < 5000 || len(seen) != 2 {
		t.Errorf("the answers were %v", seen)
	}
}

func TestStatesOfConfigs(t *testing.T) {
	d := newDrawer(703)
	right := d.full(good, 2)
	wrong := right
	wrong.Peer, wrong.HasPeer = api.Key{}, false
	for _, version := range []int{1, 2} {
		for _, skip := range []int{0, 1, 999, 1000} {
			for _, store := range []int{2, 3, 1999, 2000} {
				right.Config, wrong.Config = api.Config{Version: version, Skip: skip, Store: store}, api.Config{Version: version, Skip: skip, Store: store}
				checks(t, "a good config", right, api.OK)
				checks(t, "a good config of a wrong state", wrong, api.ErrState)
			}
		}
	}
	skips, stores := append(outside(mostSkip), 0, 1000), append(outside(mostStore), 0, 2000)
	for _, s := range []api.State{right, wrong} {
		for _, version := range wrongVersions {
			for _, skip := range skips {
				s.Config = api.Config{Version: version, Skip: skip, Store: stores[d.Intn(len(stores))]}
				checks(t, "a version that is not known", s, api.ErrVersion)
			}
		}
		for _, version := range []int{1, 2} {
			for _, bad := range outside(mostSkip) {
				s.Config = api.Config{Version: version, Skip: bad, Store: stores[d.Intn(len(stores))]}
				checks(t, "Skip out of its bounds", s, api.ErrArg)
			}
			for _, bad := range outside(mostStore) {
				s.Config = api.Config{Version: version, Skip: skips[d.Intn(len(skips))], Store: bad}
				checks(t, "Store out of its bounds", s, api.ErrArg)
			}
		}
	}
}

// Lists of spares to the last place and one beyond; two that meet at any two places.
func TestStatesOfSpares(t *testing.T) {
	d := newDrawer(704)
	for _, store := range []int{0, 1, 2, 50, 2000} {
		s := d.full(api.Config{Version: 1, Store: store}, store+1)
		all := s.Spares
		checks(t, "one too many", s, api.ErrState)
		s.Spares = all[:store]
		checks(t, "as many as may be", s, api.OK)
	}
	s := d.full(api.Config{Version: 1, Store: 12}, 12)
	for i := range s.Spares {
		for j := range i {
			twice := copied(s)
			twice.Spares[i].Header, twice.Spares[i].N = s.Spares[j].Header, s.Spares[j].N
			checks(t, "two that meet", twice, api.ErrState)
			twice.Spares[i].N++
			if !slices.ContainsFunc(s.Spares, func(x api.Spare) bool { return meet(x, twice.Spares[i]) }) {
				checks(t, "of one header key alone", twice, api.OK)
			}
		}
	}
	s.Spares[3].Header, s.Spares[4].Header, s.Spares[5].Header = s.RecvHeader, s.NextRecv, s.SendHeader
	checks(t, "spares under the chains' header keys", s, api.OK)
}

// P13.2

func TestAliceAndBob(t *testing.T) {
	d := newDrawer(705)
	for range 40 {
		shared, headerA, headerB, peer, own := d.key(), d.key(), d.key(), d.key(), d.pair()
		c := api.Config{Version: 1 + d.Intn(2), Skip: d.Intn(1001), Store: d.Intn(2001)}
		a, e := ratchet.Alice(shared, headerA, headerB, peer, c)
		if e != api.OK || a == nil || !same(a.State(), api.State{Config: c, Root: shared, Peer: peer, HasPeer: true, Turn: true, NextSend: headerA, NextRecv: headerB}) {
			t.Fatalf("Alice: %v", e)
		}
		b, e := ratchet.Bob(shared, headerA, headerB, own, c)
		if e != api.OK || b == nil || !same(b.State(), api.State{Config: c, Root: shared, Own: own, HasOwn: true, NextSend: headerB, NextRecv: headerA}) {
			t.Fatalf("Bob: %v", e)
		}
	}
	for _, peer := range weakKeys() { // a weak one is told where it is used
		if a, e := ratchet.Alice(api.Key{}, api.Key{}, api.Key{}, peer, good); e != api.OK || a.State().Peer != peer {
			t.Errorf("Alice of the peer %x: %v", peer, e)
		}
	}
}

func TestAliceAndBobOfConfigs(t *testing.T) {
	d := newDrawer(706)
	own := d.pair()
	noPair := api.Pair{Private: own.Private, Public: own.Private}
	hold := func(c api.Config, want api.Errno) {
		t.Helper()
		if r, e := ratchet.Alice(api.Key{1}, api.Key{2}, api.Key{3}, own.Public, c); e != want || (r == nil) != (want != api.OK) {
			t.Errorf("Alice of %v: %v, %v, not %v", c, r, e, want)
		}
		if r, e := ratchet.Bob(api.Key{1}, api.Key{2}, api.Key{3}, own, c); e != want || (r == nil) != (want != api.OK) {
			t.Errorf("Bob of %v: %v, %v, not %v", c, r, e, want)
		}
		if want == api.OK {
			want = api.ErrState
		}
		if r, e := ratchet.Bob(api.Key{1}, api.Key{2}, api.Key{3}, noPair, c); e != want || r != nil {
			t.Errorf("Bob of %v and no pair: %v, %v, not %v", c, r, e, want)
		}
	}
	for _, version := range []int{1, 2} {
		for _, skip := range []int{0, 1000} {
			for _, store := range []int{0, 2000} {
				hold(api.Config{Version: version, Skip: skip, Store: store}, api.OK)
			}
		}
		for _, bad := range outside(mostSkip) {
			hold(api.Config{Version: version, Skip: bad, Store: 5}, api.ErrArg)
			hold(api.Config{Version: version, Skip: bad, Store: -1}, api.ErrArg)
		}
		for _, bad := range outside(mostStore) {
			hold(api.Config{Version: version, Skip: 5, Store: bad}, api.ErrArg)
		}
	}
	for _, version := range wrongVersions {
		hold(api.Config{Version: version, Skip: 5, Store: 5}, api.ErrVersion)
		hold(api.Config{Version: version, Skip: 1001, Store: 5}, api.ErrVersion)
		hold(api.Config{Version: version, Skip: 5, Store: -1}, api.ErrVersion)
	}
}

// Every bit of the pair counts, but for those of the private key that still are a private key as it is used: they have another public key.
func TestBobOfNoPair(t *testing.T) {
	d := newDrawer(707)
	own := d.pair()
	refuse := func(own api.Pair) {
		t.Helper()
		if r, e := ratchet.Bob(d.key(), d.key(), d.key(), own, good); r != nil || e != api.ErrState {
			t.Errorf("Bob of %x: %v, %v", own, r, e)
		}
	}
	for bit := range 256 {
		refuse(api.Pair{Private: api.Key(turned(own.Private[:], bit)), Public: own.Public})
		refuse(api.Pair{Private: own.Private, Public: api.Key(turned(own.Public[:], bit))})
	}
	refuse(api.Pair{})
	refuse(api.Pair{Private: own.Private})
	refuse(api.Pair{Public: own.Public})
	refuse(api.Pair{Private: own.Public, Public: own.Private})
	loose := own.Private
	loose[0] |= 7
	refuse(api.Pair{Private: loose, Public: publicByWords(loose)})
}
