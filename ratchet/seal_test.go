package ratchet_test

import (
	"bytes"
	"testing"

	"pawl/api"
)

// P13.3

// unsealed holds that a body is refused, with nothing changed.
func (d duo) unsealed(t *testing.T, body, extra, seed []byte, want api.Errno) {
	t.Helper()
	was := d.r.State()
	if _, why := d.seal(t, body, extra, seed); why != want {
		t.Errorf("Seal of %d bytes, an extra of %d, a seed of %d: %v, not %v", len(body), len(extra), len(seed), why, want)
	}
	if !same(d.r.State(), was) {
		t.Errorf("a refusal (%v) has changed the state", want)
	}
}

func (d duo) sealed(t *testing.T, body, extra, seed []byte) api.Envelope {
	t.Helper()
	e, why := d.seal(t, body, extra, seed)
	if why != api.OK {
		t.Fatalf("Seal of %d bytes, an extra of %d, a seed of %d: %v", len(body), len(extra), len(seed), why)
	}
	return e
}

var seedLengths = []int{0, 1, 16, 31, 33, 64, 256 + 32, 65536 + 32}

// The envelope and the state of a first, a second, and a later message, told by their parts.
func TestSealTellsItsParts(t *testing.T) {
	for _, version := range []int{1, 2} {
		d := newDrawer(710)
		s := d.full(api.Config{Version: version, Skip: 3, Store: 9}, 4)
		s.Turn = true
		seed, body, extra := d.bytes(32), d.bytes(64), d.bytes(10)
		own := pairByWords(api.Key(seed))
		secret, _ := sharedByWords(own.Private, s.Peer)
		root, sending, header := rootByWords(s.Root, secret)
		x := from(t, s)
		e := x.sealed(t, body, extra, seed)
		next, k := stepByWords(sending)
		key, nonce := messageByWords(k)
		v := byte(version)
		head, opens := unboxByWords(s.NextSend, nonce, []byte{v}, e.Header)
		if !opens || !bytes.Equal(head, headerByWords(api.Header{Public: own.Public, Prev: 7, N: 0})) || e.Nonce != nonce || e.Version != version || len(e.Header) != 60 {
			t.Errorf("version %d: the envelope is %v", version, e)
		}
		got, opens := unboxByWords(key, nonce, append(append(append([]byte{v}, nonce[:]...), e.Header...), extra...), e.Body)
		if !opens || !bytes.Equal(got, body) || len(e.Body) != 80 {
			t.Errorf("version %d: the body is %x", version, e.Body)
		}
		want := copied(s)
		want.Own, want.Prev, want.SendHeader, want.Root, want.Send, want.NextSend, want.SendN, want.Turn = own, 7, s.NextSend, root, next, header, 1, false
		if !same(x.r.State(), want) {
			t.Errorf("version %d: the state is %+v", version, x.r.State())
		}
		x.sealed(t, body, extra, nil)
		want.Send, _ = stepByWords(next)
		want.SendN = 2
		if !same(x.r.State(), want) {
			t.Errorf("version %d: behind a second message the state is %+v", version, x.r.State())
		}
	}
}

func TestSealOfManyLengths(t *testing.T) {
	d := newDrawer(711)
	for i := range 300 {
		x := from(t, d.full(api.Config{Version: 1 + i%2}, 0))
		n := i
		if i >= 200 {
			n = d.Intn(5000)
		}
		x.sealed(t, d.bytes(n), d.bytes(d.Intn(200)), nil)
	}
}

// A body and an extra at their bounds and beyond, ahead of all else that is wrong.
func TestSealOfLongOnes(t *testing.T) {
	d := newDrawer(712)
	body, extra, seed := d.bytes(mostBox+2), d.bytes(1<<17), d.bytes(32)
	turn := d.full(good, 0)
	turn.Turn = true
	weak, exhausted, silent := turn, d.full(good, 0), states(d)["bob"]
	weak.Peer = api.Key{1}
	exhausted.SendN = mostCount
	for _, s := range []api.State{turn, d.full(good, 0), weak, exhausted, silent} {
		x := from(t, s)
		for _, n := range []int{mostBox + 1, mostBox + 2} {
			x.unsealed(t, body[:n], nil, seed, api.ErrLong)
			x.unsealed(t, body[:n], extra[:mostExtra], nil, api.ErrLong)
			x.unsealed(t, body[:n], extra, seed[:31], api.ErrLong)
		}
		for _, n := range []int{mostExtra + 1, mostExtra + 2, 1 << 17} {
			x.unsealed(t, nil, extra[:n], seed, api.ErrLong)
			x.unsealed(t, body[:64], extra[:n], seed[:31], api.ErrLong)
		}
	}
	x := from(t, turn)
	x.sealed(t, body[:mostBox], extra[:mostExtra], seed)
	x.sealed(t, body[:mostBox-1], extra[:mostExtra-1], nil)
	x.sealed(t, nil, extra[:mostExtra], nil)
	x.sealed(t, body[:mostBox], nil, nil)
}

// Neither turn nor chain: whatever the seed is.
func TestSealOfASilentOne(t *testing.T) {
	d := newDrawer(713)
	x := from(t, states(d)["bob"])
	for _, n := range append(seedLengths, 32) {
		x.unsealed(t, []byte("b"), nil, make([]byte, n), api.ErrSilent)
		x.unsealed(t, nil, d.bytes(mostExtra), make([]byte, n), api.ErrSilent)
	}
}

// Seeds of other lengths: with the turn refused, ahead of a weak peer; without it not looked at.
func TestSealOfSeeds(t *testing.T) {
	d := newDrawer(714)
	for _, what := range []string{"alice", "heard", "turn", "sent, with the turn"} {
		s := states(d)[what]
		weak := s
		weak.Peer = api.Key{}
		ended := s
		if s.HasSend {
			ended.SendN = mostCount
		}
		for _, n := range seedLengths {
			from(t, s).unsealed(t, []byte("b"), nil, d.bytes(n), api.ErrSize)
			from(t, weak).unsealed(t, []byte("b"), nil, d.bytes(n), api.ErrSize)
			from(t, ended).unsealed(t, []byte("b"), nil, d.bytes(n), api.ErrSize)
		}
		x := from(t, s)
		x.unsealed(t, nil, nil, d.bytes(31), api.ErrSize)
		x.unsealed(t, nil, nil, d.bytes(33), api.ErrSize)
		x.sealed(t, nil, nil, d.bytes(32))
		for _, n := range seedLengths {
			x.sealed(t, nil, nil, d.bytes(n))
		}
	}
	s := d.full(good, 0)
	if a, b := from(t, s).sealed(t, nil, nil, d.bytes(32)), from(t, s).sealed(t, nil, nil, nil); !sameEnvelope(a, b) {
		t.Error("a seed is looked at without the turn")
	}
}

// A peer of which every private key makes nothing; one Open later there may be another.
func TestSealToAWeakPeer(t *testing.T) {
	d := newDrawer(715)
	for _, peer := range weakKeys() {
		for _, what := range []string{"alice", "turn"} {
			s := states(d)[what]
			s.Peer = peer
			if s.HasSend {
				s.SendN = mostCount
			}
			x := from(t, s)
			for range 3 {
				x.unsealed(t, d.bytes(64), d.bytes(5), d.bytes(32), api.ErrWeak)
			}
		}
		s := d.full(good, 0)
		s.Peer = peer
		from(t, s).sealed(t, nil, nil, nil)
	}
}

// Example 7, and the numbers ahead of the end.
func TestSealAtTheEnd(t *testing.T) {
	d := newDrawer(716)
	s := d.full(good, 3)
	s.SendN, s.Prev = mostCount-2, mostCount
	x := from(t, s)
	x.sealed(t, nil, nil, nil)
	x.sealed(t, nil, nil, nil)
	if n := x.r.State().SendN; n != mostCount {
		t.Fatalf("SendN is %d", n)
	}
	for range 3 {
		x.unsealed(t, nil, nil, d.bytes(32), api.ErrExhausted)
		x.unsealed(t, d.bytes(mostBox), d.bytes(mostExtra), nil, api.ErrExhausted)
	}
	s = x.r.State()
	s.Turn = true
	x = from(t, s)
	x.sealed(t, nil, nil, d.bytes(32))
	if s := x.r.State(); s.Prev != mostCount || s.SendN != 1 || s.Turn {
		t.Errorf("behind the end: %+v", s)
	}
	for _, n := range []uint32{0, 1, 127, 128, 255, 256, 65535, 65536, 1<<31 - 1, 1 << 31, 3000000000, mostCount - 1} {
		s := d.full(good, 0)
		s.SendN, s.Prev = n, n/3
		from(t, s).sealed(t, nil, nil, nil)
		s.Turn = true
		from(t, s).sealed(t, nil, nil, d.bytes(32))
	}
}

// What is sealed is the same, whoever's seed it is from whichever state: all of it hangs on the arguments.
func TestSealOfDrawnStates(t *testing.T) {
	d := newDrawer(717)
	names := []string{"alice", "sent", "heard", "full", "turn", "sent, with the turn"}
	for i := range 120 {
		s := states(d)[names[i%len(names)]]
		s.Config = api.Config{Version: 1 + d.Intn(2), Skip: d.Intn(9), Store: 5 + d.Intn(9)}
		x := from(t, s)
		for range 1 + d.Intn(4) {
			x.sealed(t, d.bytes(d.Intn(100)), d.bytes(d.Intn(30)), d.bytes(32))
		}
	}
}
