package ratchet_test

import (
	"testing"

	"pawl/api"
	"pawl/ratchet"
)

// The chapter's examples, of the config {1, 2, 3}.

var small = api.Config{Version: 1, Skip: 2, Store: 3}

// headOf is what the header of an envelope says that the side has just sealed.
func (d duo) headOf(t *testing.T, e api.Envelope) api.Header {
	t.Helper()
	b, opens := unboxByWords(d.r.State().SendHeader, e.Nonce, []byte{byte(e.Version)}, e.Header)
	if !opens {
		t.Fatal("the header does not open under the sending chain's header key")
	}
	h, is := unheaderByWords(b)
	if !is {
		t.Fatalf("no header: %x", b)
	}
	return h
}

func TestExampleOne(t *testing.T) {
	alice, bob := sides(t, small)
	bob.unsealed(t, []byte("no"), nil, seedOf(9), api.ErrSilent)
	first := alice.sends(t, "zero", 2)
	if s := alice.r.State(); !s.HasOwn || !s.HasSend || s.SendN != 1 || s.Prev != 0 || s.Turn {
		t.Errorf("%+v", s)
	}
	bob.hears(t, first, "zero", 1, 1)
	if s := bob.r.State(); !s.HasPeer || !s.HasRecv || s.RecvN != 1 || !s.Turn {
		t.Errorf("%+v", s)
	}
	bob.refuses(t, first, []byte("x"), api.ErrOld, 1, 0)
}

func TestExampleTwo(t *testing.T) {
	alice, bob := sides(t, small)
	l := alice.sendsAll(t, 7, 2)
	spares := func(want int) {
		t.Helper()
		if n := len(bob.r.State().Spares); n != want {
			t.Errorf("%d spares, not %d", n, want)
		}
	}
	bob.hears(t, l[0], "0", 1, 1)
	bob.hears(t, l[3], "3", 1, 3)
	spares(2)
	bob.refuses(t, l[6], []byte("x"), api.ErrStore, 1, 0)
	spares(2)
	bob.hears(t, l[5], "5", 1, 2)
	spares(3)
	bob.hears(t, l[1], "1", 1, 0)
	spares(2)
}

func TestExampleThree(t *testing.T) {
	alice, bob := sides(t, small)
	bob.hears(t, alice.sends(t, "first", 1), "first", 1, 1)
	answer := bob.sends(t, "answer", 2)
	if h := bob.headOf(t, answer); h.Prev != 0 || h.N != 0 || h.Public != bob.r.State().Own.Public {
		t.Errorf("Bob's header: %v", h)
	}
	alice.sendsAll(t, 10, 3)
	alice.hears(t, answer, "answer", 1, 1)
	next := alice.sends(t, "next", 4)
	if h := alice.headOf(t, next); h.Prev != 11 || h.N != 0 || h.Public != pairByWords(api.Key(seedOf(4))).Public {
		t.Errorf("Alice's header: %v", h)
	}
}

func TestExampleFour(t *testing.T) {
	alice, _ := sides(t, small)
	alice.unsealed(t, nil, nil, make([]byte, 31), api.ErrSize)
	alice.sealed(t, nil, nil, make([]byte, 32))
	alice.sealed(t, nil, nil, make([]byte, 31))
}

func TestExamplesFiveAndSix(t *testing.T) {
	alice, bob := sides(t, small)
	refused(t, bob.w.s, letterTo(bob.w.s, bob.w.s.NextRecv, api.Header{}), api.ErrWeak, 1)
	refused(t, alice.w.s, letterTo(alice.w.s, alice.w.s.NextRecv, api.Header{Public: api.Key{9}}), api.ErrState, 1)
}

func TestExampleSeven(t *testing.T) {
	alice, _ := sides(t, small)
	alice.sends(t, "zero", 2)
	s := alice.r.State()
	s.SendN = mostCount
	from(t, s).unsealed(t, nil, nil, seedOf(3), api.ErrExhausted)
	s.Turn = true
	x := from(t, s)
	if h := x.headOf(t, x.sealed(t, nil, nil, seedOf(3))); h.Prev != mostCount || h.N != 0 {
		t.Errorf("the header: %v", h)
	}
}

// DOC.md's examples 4, 6 and 7 of the whole, as far as they are this layer's.
func TestExamplesOfTheWhole(t *testing.T) {
	alice, bob := sides(t, api.Config{Version: 1, Skip: 5, Store: 9})
	l := alice.sendsAll(t, 4, 1)
	bob.hears(t, l[0], "0", 1, 1)
	bob.hears(t, l[3], "3", 1, 3)
	bob.hears(t, l[1], "1", 1, 0)
	alice, bob = sides(t, api.Config{Version: 1, Skip: 1, Store: 9})
	l = alice.sendsAll(t, 4, 1)
	bob.hears(t, l[0], "0", 1, 1)
	bob.refuses(t, l[3], []byte("x"), api.ErrSkip, 1, 0)
	bob.hears(t, l[1], "1", 1, 1)
	alice, bob = sides(t, api.Config{Version: 1, Skip: 5, Store: 2})
	l = alice.sendsAll(t, 6, 1)
	bob.hears(t, l[1], "1", 1, 2)
	bob.refuses(t, l[4], []byte("x"), api.ErrStore, 1, 0)
	if bob.forget(t, 1) != 1 {
		t.Fatal("Forget")
	}
	bob.hears(t, l[4], "4", 1, 3)
}

// A side that no call made answers, whatever that is.
func TestZeroRatchet(t *testing.T) {
	var r ratchet.Ratchet
	r.State()
	r.Forget(3)
	r.Seal([]byte("a"), nil, seedOf(1))
	r.Open(api.Envelope{}, nil)
	for _, version := range []int{0, 1, 2} {
		r.Open(letter{version: version}.envelope(nil, nil), nil)
		r.Open(letter{version: version, header: api.Header{Public: api.Key{9}}}.envelope(nil, nil), nil)
	}
}
