package session_test

import (
	"bytes"
	"math/rand"
	"reflect"
	"slices"
	"testing"

	"pawl/api"
	"pawl/chain"
	"pawl/curve"
	"pawl/envelope"
	"pawl/seal"
	"pawl/session"
)

// What several tests draw, make and hold against each other.

// same: two states are alike, to the last bit; nil and empty lists are.
func same(a, b api.State) bool {
	if !slices.Equal(a.Spares, b.Spares) {
		return false
	}
	a.Spares, b.Spares = nil, nil
	return reflect.DeepEqual(a, b)
}

// sameError: both are nil, or both are an *api.Wrap of the same part, with the same Errno or with an *api.Fault of the same place and reason.
func sameError(got, want error) bool {
	if got == nil || want == nil {
		return got == nil && want == nil
	}
	a, isA := got.(*api.Wrap)
	b, isB := want.(*api.Wrap)
	if !isA || !isB || a == nil || b == nil || a.Part != b.Part {
		return false
	}
	switch x := b.Err.(type) {
	case api.Errno:
		y, is := a.Err.(api.Errno)
		return is && x == y
	case *api.Fault:
		y, is := a.Err.(*api.Fault)
		return is && y != nil && *x == *y
	}
	return false
}

// wrap is an error with its part.
func wrap(part int, err error) error { return &api.Wrap{Part: part, Err: err} }

// duo is a session and what the words make of it.
type duo struct {
	s *session.Session
	w *sideByWords
}

// stands holds all that can be seen of a session against the words.
func (d duo) stands(t *testing.T, what string) {
	t.Helper()
	if got := d.s.State(); !same(got, d.w.s) {
		t.Fatalf("%s: the state is\n%+v, not\n%+v", what, got, d.w.s)
	}
	if got, want := d.s.Export(), bytesByWords(d.w.s); !bytes.Equal(got, want) {
		t.Fatalf("%s: Export is\n%x, not\n%x", what, got, want)
	}
}

// from is the two of a state that can be.
func from(t *testing.T, s api.State) duo {
	t.Helper()
	x, err := session.Import(bytesByWords(s))
	if err != nil || x == nil {
		t.Fatalf("Import: %v of %+v", err, s)
	}
	d := duo{x, &sideByWords{copied(s)}}
	d.stands(t, "Import")
	return d
}

// The keys with which sides begins.
func rootKey() []byte { return seedOf(101) }
func keyA() []byte    { return seedOf(102) }
func keyB() []byte    { return seedOf(103) }
func bobSeed() []byte { return seedOf(104) }

func bobPair() api.Pair {
	own, why := curve.Pair(bobSeed())
	if why != api.OK {
		panic(why)
	}
	return own
}

// sides are Alice and Bob of the same keys and config.
func sides(t *testing.T, c api.Config) (duo, duo) {
	t.Helper()
	own := bobPair()
	a, err := session.Alice(rootKey(), keyA(), keyB(), own.Public[:], c)
	b, bad := session.Bob(rootKey(), keyA(), keyB(), bobSeed(), c)
	if err != nil || bad != nil {
		t.Fatalf("Alice %v, Bob %v", err, bad)
	}
	root, headerA, headerB := api.Key(rootKey()), api.Key(keyA()), api.Key(keyB())
	alice := duo{a, &sideByWords{api.State{Config: c, Root: root, Peer: own.Public, HasPeer: true, Turn: true, NextSend: headerA, NextRecv: headerB}}}
	bob := duo{b, &sideByWords{api.State{Config: c, Root: root, Own: own, HasOwn: true, NextSend: headerB, NextRecv: headerA}}}
	alice.stands(t, "Alice")
	bob.stands(t, "Bob")
	return alice, bob
}

// send sends with both, and holds all that is answered and left against the words.
func (d duo) send(t *testing.T, plain, extra, seed []byte) ([]byte, error) {
	t.Helper()
	want, bad := d.w.send(plain, extra, seed)
	got, err := d.s.Send(plain, extra, seed)
	if !sameError(err, bad) || !bytes.Equal(got, want) {
		t.Fatalf("Send of %d bytes, an extra of %d, a seed of %d: %.40x, %v, not %.40x, %v", len(plain), len(extra), len(seed), got, err, want, bad)
	}
	d.stands(t, "behind Send")
	return got, err
}

// receive hears with both, likewise.
func (d duo) receive(t *testing.T, b, extra []byte) (api.Heard, error) {
	t.Helper()
	want, bad := d.w.receive(b, extra)
	got, err := d.s.Receive(b, extra)
	if !sameError(err, bad) || !bytes.Equal(got.Plain, want.Plain) || got.Work != want.Work || err != nil && len(got.Plain) > 0 {
		t.Fatalf("Receive of %.200x: %v, %v, not %v, %v", b, got, err, want, bad)
	}
	d.stands(t, "behind Receive")
	return got, err
}

func (d duo) forget(t *testing.T, n int) int {
	t.Helper()
	want := d.w.forget(n)
	got := d.s.Forget(n)
	if got != want {
		t.Fatalf("Forget(%d): %d, not %d", n, got, want)
	}
	d.stands(t, "behind Forget")
	return got
}

// sends sends something that must be sent.
func (d duo) sends(t *testing.T, plain string, seed byte) []byte {
	t.Helper()
	b, err := d.send(t, []byte(plain), []byte("x"), seedOf(seed))
	if err != nil {
		t.Fatalf("Send of %q: %v", plain, err)
	}
	return b
}

// sendsAll sends so many: "0", "1", and so on.
func (d duo) sendsAll(t *testing.T, n int, seed byte) [][]byte {
	t.Helper()
	var l [][]byte
	for i := range n {
		l = append(l, d.sends(t, string(rune('0'+i)), seed))
	}
	return l
}

// silent holds that something is not sent, for this reason, and that nothing has changed.
func (d duo) silent(t *testing.T, plain, extra, seed []byte, want error) {
	t.Helper()
	was := d.s.Export()
	if b, err := d.send(t, plain, extra, seed); !sameError(err, want) || len(b) != 0 {
		t.Errorf("Send of %d bytes, an extra of %d, a seed of %d: %v, not %v", len(plain), len(extra), len(seed), err, want)
	}
	if !bytes.Equal(d.s.Export(), was) {
		t.Errorf("Send changes something and answers %v", want)
	}
}

// hears hands it an envelope that must be heard, with this work.
func (d duo) hears(t *testing.T, b []byte, plain string, trials, steps int) {
	t.Helper()
	got, err := d.receive(t, b, []byte("x"))
	if string(got.Plain) != plain || err != nil || got.Work != (api.Work{Trials: trials, Steps: steps}) {
		t.Fatalf("Receive: %q, %v, %v, not %q, %d, %d", got.Plain, got.Work, err, plain, trials, steps)
	}
}

// refuses hands it bytes that must be refused, for this reason, with this work, and holds that nothing has changed.
func (d duo) refuses(t *testing.T, b, extra []byte, want error, trials, steps int) {
	t.Helper()
	was := d.s.Export()
	got, err := d.receive(t, b, extra)
	if len(got.Plain) != 0 || !sameError(err, want) || got.Work != (api.Work{Trials: trials, Steps: steps}) {
		t.Fatalf("Receive: %q, %v, %v, not %v, %d, %d", got.Plain, got.Work, err, want, trials, steps)
	}
	if !bytes.Equal(d.s.Export(), was) {
		t.Fatalf("Receive changes something and answers %v", want)
	}
}

func seedOf(n byte) []byte {
	b := make([]byte, 32)
	b[1], b[5] = n, 77
	return b
}

// turned is a list in which one bit is another.
func turned(b []byte, bit int) []byte {
	out := slices.Clone(b)
	out[bit/8] ^= 1 << (bit % 8)
	return out
}

// letter is what an envelope is made with, by whoever has all keys.
type letter struct {
	version int
	under   api.Key
	header  api.Header
	message api.Key
}

func (l letter) bytes(body, extra []byte) []byte {
	return l.bytesOf(envelope.PackHeader(l.header), body, extra)
}

// bytesOf is the envelope of a header's bytes that need not be those of the letter, and of any body that has a bucket's length.
func (l letter) bytesOf(head, body, extra []byte) []byte {
	key, nonce := chain.Message(l.message)
	v := []byte{byte(l.version)}
	e := api.Envelope{Version: l.version, Nonce: nonce}
	e.Header, _ = seal.Seal(l.under, nonce, v, head)
	e.Body, _ = seal.Seal(key, nonce, slices.Concat(v, nonce[:], e.Header, extra), body)
	b, err := envelope.Pack(e)
	if err != nil {
		panic(err)
	}
	return b
}

// says is the envelope of a plain text, with the extra "x".
func (l letter) says(plain string) []byte {
	body, why := envelope.Pad(l.version, []byte(plain))
	if why != api.OK {
		panic(why)
	}
	return l.bytes(body, []byte("x"))
}

// messageAt is the key of a chain's message, so many steps ahead.
func messageAt(key api.Key, steps uint32) api.Key {
	var message api.Key
	for range steps + 1 {
		key, message = chain.Step(key)
	}
	return message
}

// bySpare, byChain and byTurn are letters to a side of that state: of one of its spares, of the receiving chain so many messages ahead, of a new chain.
func bySpare(s api.State, i int) letter {
	x := s.Spares[i]
	return letter{s.Config.Version, x.Header, api.Header{Public: s.Peer, N: x.N}, x.Message}
}

func byChain(s api.State, ahead uint32) letter {
	return letter{s.Config.Version, s.RecvHeader, api.Header{Public: s.Peer, N: s.RecvN + ahead}, messageAt(s.Recv, ahead)}
}

func byTurn(s api.State, public api.Key, prev, n uint32) letter {
	secret, _ := curve.Shared(s.Own.Private, public)
	_, key, _ := chain.Root(s.Root, secret)
	return letter{s.Config.Version, s.NextRecv, api.Header{Public: public, Prev: prev, N: n}, messageAt(key, n)}
}

type drawer struct{ *rand.Rand }

func newDrawer(seed int64) drawer { return drawer{rand.New(rand.NewSource(seed))} }

func (d drawer) bytes(n int) []byte {
	b := make([]byte, n)
	d.Read(b)
	return b
}

func (d drawer) key() api.Key { return api.Key(d.bytes(32)) }

func (d drawer) pair() api.Pair {
	p, why := curve.Pair(d.bytes(32))
	if why != api.OK {
		panic(why)
	}
	return p
}

func (d drawer) coin() bool { return d.Intn(2) == 0 }

// full is a state with both chains and some spares, of keys that are all unlike.
func (d drawer) full(c api.Config, spares int) api.State {
	s := api.State{Config: c, Root: d.key(), Own: d.pair(), HasOwn: true, Peer: d.pair().Public, HasPeer: true,
		Send: d.key(), SendHeader: d.key(), NextSend: d.key(), SendN: 7, Prev: 3, HasSend: true,
		Recv: d.key(), RecvHeader: d.key(), NextRecv: d.key(), RecvN: 5, HasRecv: true}
	header := d.key()
	for i := range spares {
		if i%7 == 6 {
			header = d.key()
		}
		s.Spares = append(s.Spares, api.Spare{Header: header, N: uint32(i), Message: d.key()})
	}
	return s
}

var good = api.Config{Version: 2, Skip: 4, Store: 9}

// states are those that sides go through, with spares and without.
func states(d drawer) map[string]api.State {
	full := d.full(good, 5)
	alice := api.State{Config: good, Root: full.Root, Peer: full.Peer, HasPeer: true, Turn: true, NextSend: full.NextSend, NextRecv: full.NextRecv}
	bob := api.State{Config: good, Root: full.Root, Own: full.Own, HasOwn: true, NextSend: full.NextSend, NextRecv: full.NextRecv}
	sent := full
	sent.Recv, sent.RecvHeader, sent.RecvN, sent.HasRecv = api.Key{}, api.Key{}, 0, false
	heard := full
	heard.Send, heard.SendHeader, heard.SendN, heard.Prev, heard.HasSend, heard.Turn = api.Key{}, api.Key{}, 0, 0, false, true
	turn := full
	turn.Turn = true
	sentTurn := sent
	sentTurn.Turn = true
	all := map[string]api.State{"alice": alice, "bob": bob, "sent": sent, "heard": heard, "full": full, "turn": turn, "sent, with the turn": sentTurn}
	for what, s := range map[string]api.State{"heard": heard, "full": full, "turn": turn, "sent": sent} {
		s.Spares = nil
		all[what+", without spares"] = s
	}
	return all
}
