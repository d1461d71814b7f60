package ratchet_test

import (
	"bytes"
	"math/rand"
	"reflect"
	"slices"
	"testing"

	"pawl/api"
	"pawl/ratchet"
)

// What several tests draw, make and hold against each other.

// same: two states are alike, to the last bit; nil and empty lists are.
func same(a, b api.State) bool {
	if !slices.Equal(a.Spares, b.Spares) {
		return false
	}
	a.Spares, b.Spares = nil, nil
	return reflect.DeepEqual(a, b)
}

func sameEnvelope(a, b api.Envelope) bool {
	return a.Version == b.Version && a.Nonce == b.Nonce && bytes.Equal(a.Header, b.Header) && bytes.Equal(a.Body, b.Body)
}

// blank: an envelope that stands beside an error.
func blank(e api.Envelope) bool {
	return e.Version == 0 && e.Nonce == api.Nonce{} && len(e.Header) == 0 && len(e.Body) == 0
}

// duo is a side and what the words make of it.
type duo struct {
	r *ratchet.Ratchet
	w *sideByWords
}

// from is the two of a state that can be.
func from(t *testing.T, s api.State) duo {
	t.Helper()
	r, e := ratchet.From(s)
	if e != api.OK || r == nil {
		t.Fatalf("From: %v of %+v", e, s)
	}
	d := duo{r, &sideByWords{copied(s)}}
	d.stands(t, "From")
	return d
}

// sides are Alice and Bob of the same keys and config.
func sides(t *testing.T, c api.Config) (duo, duo) {
	t.Helper()
	own := pairByWords(api.Key{9: 1})
	a, e := ratchet.Alice(api.Key{1}, api.Key{2}, api.Key{3}, own.Public, c)
	b, f := ratchet.Bob(api.Key{1}, api.Key{2}, api.Key{3}, own, c)
	if e != api.OK || f != api.OK {
		t.Fatalf("Alice %v, Bob %v", e, f)
	}
	alice := duo{a, &sideByWords{api.State{Config: c, Root: api.Key{1}, Peer: own.Public, HasPeer: true, Turn: true, NextSend: api.Key{2}, NextRecv: api.Key{3}}}}
	bob := duo{b, &sideByWords{api.State{Config: c, Root: api.Key{1}, Own: own, HasOwn: true, NextSend: api.Key{3}, NextRecv: api.Key{2}}}}
	alice.stands(t, "Alice")
	bob.stands(t, "Bob")
	return alice, bob
}

// stands holds a side's state against the words.
func (d duo) stands(t *testing.T, what string) {
	t.Helper()
	if got := d.r.State(); !same(got, d.w.s) {
		t.Fatalf("%s: the state is\n%+v, not\n%+v", what, got, d.w.s)
	}
}

// seal seals with both, and holds all that is answered and left against the words.
func (d duo) seal(t *testing.T, body, extra, seed []byte) (api.Envelope, api.Errno) {
	t.Helper()
	want, wantWhy := d.w.seal(body, extra, seed)
	got, why := d.r.Seal(body, extra, seed)
	if why != wantWhy || !sameEnvelope(got, want) || why != api.OK && !blank(got) {
		t.Fatalf("Seal of %d bytes, an extra of %d, a seed of %d: %v, %v, not %v, %v", len(body), len(extra), len(seed), got, why, want, wantWhy)
	}
	d.stands(t, "behind Seal")
	return got, why
}

// open opens with both, likewise.
func (d duo) open(t *testing.T, e api.Envelope, extra []byte) ([]byte, api.Work, api.Errno) {
	t.Helper()
	want, wantWork, wantWhy := d.w.open(e, extra)
	got, work, why := d.r.Open(e, extra)
	if !bytes.Equal(got, want) || work != wantWork || why != wantWhy {
		t.Fatalf("Open: %.40x, %v, %v, not %.40x, %v, %v", got, work, why, want, wantWork, wantWhy)
	}
	d.stands(t, "behind Open")
	return got, work, why
}

func (d duo) forget(t *testing.T, n int) int {
	t.Helper()
	want := d.w.forget(n)
	got := d.r.Forget(n)
	if got != want {
		t.Fatalf("Forget(%d): %d, not %d", n, got, want)
	}
	d.stands(t, "behind Forget")
	return got
}

// sends seals a body that must be sealed.
func (d duo) sends(t *testing.T, body string, seed byte) api.Envelope {
	t.Helper()
	e, why := d.seal(t, []byte(body), []byte("x"), seedOf(seed))
	if why != api.OK {
		t.Fatalf("Seal of %q: %v", body, why)
	}
	return e
}

// sendsAll seals so many bodies: "0", "1", and so on.
func (d duo) sendsAll(t *testing.T, n int, seed byte) []api.Envelope {
	t.Helper()
	var l []api.Envelope
	for i := range n {
		l = append(l, d.sends(t, bodyOf(i), seed))
	}
	return l
}

func bodyOf(i int) string { return string(rune('0' + i)) }

// hears opens an envelope that must give a body, with this work.
func (d duo) hears(t *testing.T, e api.Envelope, body string, trials, steps int) {
	t.Helper()
	got, work, why := d.open(t, e, []byte("x"))
	if string(got) != body || why != api.OK || work != (api.Work{Trials: trials, Steps: steps}) {
		t.Fatalf("Open: %q, %v, %v, not %q, %d, %d", got, work, why, body, trials, steps)
	}
}

// refuses opens one that must be refused, with this work, and leaves the state as it was.
func (d duo) refuses(t *testing.T, e api.Envelope, extra []byte, why api.Errno, trials, steps int) {
	t.Helper()
	was := d.r.State()
	got, work, e1 := d.open(t, e, extra)
	if len(got) != 0 || e1 != why || work != (api.Work{Trials: trials, Steps: steps}) {
		t.Fatalf("Open: %q, %v, %v, not %v, %d, %d", got, work, e1, why, trials, steps)
	}
	if !same(d.r.State(), was) {
		t.Fatalf("a refusal (%v) has changed the state", why)
	}
}

func seedOf(n byte) []byte {
	b := make([]byte, 32)
	b[1], b[5] = n, 77
	return b
}

// turned is a list in which one bit is another.
func turned(b []byte, bit int) []byte {
	out := slices.Clone(b)
	out[bit/8] ^= 1 << (bit % 8)
	return out
}

// weakKeys are public keys that give nothing secret: 0, 1, the two of order 8, -1, and other forms of these.
func weakKeys() []api.Key {
	eight := api.Key{0xe0, 0xeb, 0x7a, 0x7c, 0x3b, 0x41, 0xb8, 0xae, 0x16, 0x56, 0xe3, 0xfa, 0xf1, 0x9f, 0xc4, 0x6a, 0xda, 0x09, 0x8d, 0xeb, 0x9c, 0x32, 0xb1, 0xfd, 0x86, 0x62, 0x05, 0x16, 0x5f, 0x49, 0xb8, 0x00}
	other := api.Key{0x5f, 0x9c, 0x95, 0xbc, 0xa3, 0x50, 0x8c, 0x24, 0xb1, 0xd0, 0xb1, 0x55, 0x9c, 0x83, 0xef, 0x5b, 0x04, 0x44, 0x5c, 0xc4, 0x58, 0x1c, 0x8e, 0x86, 0xd8, 0x22, 0x4e, 0xdd, 0xd0, 0x9f, 0x11, 0x57}
	l := []api.Key{{}, {1}, eight, other}
	for _, first := range []byte{0xec, 0xed, 0xee} {
		k := api.Key(bytes.Repeat([]byte{0xff}, 32))
		k[0], k[31] = first, 0x7f
		l = append(l, k)
	}
	for _, k := range slices.Clone(l) {
		k[31] |= 0x80
		l = append(l, k)
	}
	return l
}

type drawer struct{ *rand.Rand }

func newDrawer(seed int64) drawer { return drawer{rand.New(rand.NewSource(seed))} }

func (d drawer) bytes(n int) []byte {
	b := make([]byte, n)
	d.Read(b)
	return b
}

func (d drawer) key() api.Key { return api.Key(d.bytes(32)) }

func (d drawer) pair() api.Pair { return pairByWords(d.key()) }

func (d drawer) coin() bool { return d.Intn(2) == 0 }

// full is a state with both chains and some spares, of keys that are all unlike.
func (d drawer) full(c api.Config, spares int) api.State {
	s := api.State{Config: c, Root: d.key(), Own: d.pair(), HasOwn: true, Peer: d.pair().Public, HasPeer: true,
		Send: d.key(), SendHeader: d.key(), NextSend: d.key(), SendN: 7, Prev: 3, HasSend: true,
		Recv: d.key(), RecvHeader: d.key(), NextRecv: d.key(), RecvN: 5, HasRecv: true}
	header := d.key()
	for i := range spares {
		if i%7 == 6 {
			header = d.key()
		}
		s.Spares = append(s.Spares, api.Spare{Header: header, N: uint32(i), Message: d.key()})
	}
	return s
}
