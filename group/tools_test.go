package group_test

import (
	"bytes"
	"fmt"
	"slices"
	"testing"

	"pawl/api"
	"pawl/group"
)

// What several tests make and hold against each other.

// sameError: both are nil, or both are an *api.Wrap of the same part, with the same Errno or with an *api.Fault of the same place and reason.
func sameError(got, want error) bool {
	if got == nil || want == nil {
		return got == nil && want == nil
	}
	a, isA := got.(*api.Wrap)
	b, isB := want.(*api.Wrap)
	if !isA || !isB || a == nil || b == nil || a.Part != b.Part {
		return false
	}
	switch x := b.Err.(type) {
	case api.Errno:
		y, is := a.Err.(api.Errno)
		return is && x == y
	case *api.Fault:
		y, is := a.Err.(*api.Fault)
		return is && y != nil && *x == *y
	}
	return false
}

// seat is a group and what the words make of it.
type seat struct {
	t     *testing.T
	g     *group.Group
	w     *side
	shown cardPaper // the card that was held against the words last: signing takes long
}

// stands holds all that can be seen of a group against the words.
func (s *seat) stands(what string) {
	s.t.Helper()
	if got, want := s.g.Export(), s.w.export(); !bytes.Equal(got, want) {
		s.t.Fatalf("%s: Export is\n%.900x, not\n%.900x", what, got, want)
	}
	if got, want := s.g.Members(), s.w.members(); !slices.Equal(got, want) {
		s.t.Fatalf("%s: Members are %v, not %v", what, got, want)
	}
	if got := s.g.Gen(); got != s.w.gen {
		s.t.Fatalf("%s: Gen is %d, not %d", what, got, s.w.gen)
	}
	if c := s.w.cardPaper(); c != s.shown {
		if got, want := s.g.Card(), s.w.card(); !bytes.Equal(got, want) {
			s.t.Fatalf("%s: Card is\n%x, not\n%x", what, got, want)
		}
		s.shown = c
	}
}

// learn takes a card with both, and holds all that is answered and left against the words; so do the others.
func (s *seat) learn(b []byte) error {
	s.t.Helper()
	want := s.w.learn(b)
	if got := s.g.Learn(b); !sameError(got, want) {
		s.t.Fatalf("Learn of %x: %v, not %v", b, got, want)
	}
	s.stands("behind Learn")
	return want
}

func (s *seat) send(plain, extra []byte) ([]byte, error) {
	s.t.Helper()
	want, bad := s.w.send(plain, extra)
	got, err := s.g.Send(plain, extra)
	if !sameError(err, bad) || !bytes.Equal(got, want) {
		s.t.Fatalf("Send of %d bytes, an extra of %d: %.60x, %v, not %.60x, %v", len(plain), len(extra), got, err, want, bad)
	}
	s.stands("behind Send")
	return want, bad
}

func (s *seat) receive(b, extra []byte) (api.Said, error) {
	s.t.Helper()
	want, bad := s.w.receive(b, extra)
	got, err := s.g.Receive(b, extra)
	if !sameError(err, bad) || !sameSaid(got, want) {
		s.t.Fatalf("Receive of %.200x: %.100v, %v, not %.100v, %v", b, got, err, want, bad)
	}
	s.stands("behind Receive")
	return want, bad
}

func sameSaid(a, b api.Said) bool {
	return a.Member == b.Member && a.Gen == b.Gen && a.N == b.N && bytes.Equal(a.Plain, b.Plain)
}

func (s *seat) renew(seed []byte) api.Errno {
	s.t.Helper()
	want := s.w.renew(seed)
	if got := s.g.Renew(seed); got != want {
		s.t.Fatalf("Renew(%x): %v, not %v", seed, got, want)
	}
	s.stands("behind Renew")
	return want
}

func (s *seat) remove(member string, seed []byte) api.Errno {
	s.t.Helper()
	want := s.w.remove(member, seed)
	if got := s.g.Remove(member, seed); got != want {
		s.t.Fatalf("Remove(%q, %x): %v, not %v", member, seed, got, want)
	}
	s.stands("behind Remove")
	return want
}

// learns takes a card that must be taken; refusesCard one that must not, for this reason.
func (s *seat) learns(b []byte) {
	s.t.Helper()
	if err := s.learn(b); err != nil {
		s.t.Fatalf("Learn: %v", err)
	}
}

func (s *seat) refusesCard(what string, b []byte, part int, why error) {
	s.t.Helper()
	was := s.g.Export()
	if err := s.learn(b); !sameError(err, wrap(part, why)) {
		s.t.Fatalf("%s: Learn: %v, not %v in part %d", what, err, why, part)
	}
	if !bytes.Equal(s.g.Export(), was) {
		s.t.Fatalf("%s: Learn changes something", what)
	}
}

// x is the extra of most messages.
var x = []byte("x")

// hears hands it a message that must be heard.
func (s *seat) hears(b []byte, from string, gen, n uint32, plain string) {
	s.t.Helper()
	got, err := s.receive(b, x)
	if want := (api.Said{Member: from, Gen: gen, N: n, Plain: []byte(plain)}); err != nil || !sameSaid(got, want) {
		s.t.Fatalf("Receive: %.100v, %v, not %.100v", got, err, want)
	}
}

// refuses hands it what must be refused for this reason, and holds that nothing has changed.
func (s *seat) refuses(what string, b, extra []byte, part int, why error) {
	s.t.Helper()
	was := s.g.Export()
	if _, err := s.receive(b, extra); !sameError(err, wrap(part, why)) {
		s.t.Fatalf("%s: Receive: %v, not %v in part %d", what, err, why, part)
	}
	if !bytes.Equal(s.g.Export(), was) {
		s.t.Fatalf("%s: Receive changes something", what)
	}
}

// must is an OK.
func must(t *testing.T, what string, e api.Errno) {
	t.Helper()
	if e != api.OK {
		t.Fatalf("%s: %v", what, e)
	}
}

func seedOf(n byte) []byte {
	b := make([]byte, 32)
	b[3], b[17] = n, 99
	return b
}

// here and good are the id and the config of most groups.
var (
	here = api.Key{7, 31: 9}
	good = api.Config{Version: 1, Skip: 5, Store: 9}
)

// sits is a member of a config; sit has the usual one.
func sits(t *testing.T, me string, seed byte, c api.Config) *seat {
	t.Helper()
	g, e := group.New(here, me, seedOf(seed), c)
	must(t, "New", e)
	s := &seat{t: t, g: g, w: speaks(me, seed, c)}
	s.stands("New")
	return s
}

func sit(t *testing.T, me string, seed byte) *seat {
	t.Helper()
	return sits(t, me, seed, good)
}

// speaks is a member by the words alone, who says something to a seat; speak has the usual config.
func speaks(me string, seed byte, c api.Config) *side {
	s, e := newByWords(here, me, seedOf(seed), c)
	if e != api.OK {
		panic(e)
	}
	return s
}

func speak(me string, seed byte) *side { return speaks(me, seed, good) }

// says is what a side says next, with the extra x.
func (s *side) says(plain string) []byte { return fine(s.send([]byte(plain), x)) }

// saysAll says so much: "0", "1", and so on.
func (s *side) saysAll(n int) [][]byte {
	var l [][]byte
	for i := range n {
		l = append(l, s.says(fmt.Sprint(i)))
	}
	return l
}

// from is the seat of a side that can be.
func from(t *testing.T, w *side) *seat {
	t.Helper()
	g, err := group.Import(w.export())
	if err != nil || g == nil {
		t.Fatalf("Import: %v of %.900x", err, w.export())
	}
	s := &seat{t: t, g: g, w: w.copied()}
	s.stands("Import")
	return s
}

// turned is a list in which one bit is another.
func turned(b []byte, bit int) []byte {
	out := slices.Clone(b)
	out[bit/8] ^= 1 << (bit % 8)
	return out
}

// sized is b with n bytes, fewer than 128, in the field that begins at a place.
func sized(b []byte, at, n int) []byte {
	rest := b[at+2+int(b[at+1]):]
	return slices.Concat(b[:at+1], []byte{byte(n)}, bytes.Repeat([]byte{7}, n), rest)
}
