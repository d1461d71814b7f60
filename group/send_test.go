package group_test

import (
	"bytes"
	"testing"

	"pawl/api"
)

// P24.4, and what 24.1 says of a message's bytes.

// silent holds that something is not sent, for this reason, and that nothing has changed.
func (s *seat) silent(what string, plain, extra []byte, part int, why api.Errno) {
	s.t.Helper()
	was := s.g.Export()
	b, err := s.send(plain, extra)
	if !sameError(err, wrap(part, why)) || len(b) != 0 {
		s.t.Fatalf("%s: Send: %v, not %v in part %d", what, err, why, part)
	}
	if !bytes.Equal(s.g.Export(), was) {
		s.t.Fatalf("%s: Send changes something", what)
	}
}

func TestSend(t *testing.T) {
	for _, version := range []int{1, 2} {
		s := sits(t, "ann", 1, api.Config{Version: version})
		for i, n := range []int{0, 1, 59, 60, 61, 67, 68, 69, 124, 125, 1000, 1020, 1021} {
			for j, m := range []int{0, 1, 300} {
				b, err := s.send(bytes.Repeat([]byte{byte(n + 1)}, n), bytes.Repeat([]byte{byte(m)}, m))
				if err != nil {
					t.Fatal(err)
				}
				if want := 34 + 5 + 5 + 5 + 3 + bucketByWords(version, n+4) + 16 + 66; n > 107 && len(b) != want { // the box's length needs two bytes
					t.Errorf("a text of %d bytes: %d bytes, not %d", n, len(b), want)
				}
				if s.w.num != uint32(3*i+j+1) {
					t.Fatalf("the chain's number is %d", s.w.num)
				}
			}
		}
	}
}

func TestSendLong(t *testing.T) {
	for _, version := range []int{1, 2} {
		c := api.Config{Version: version}
		s, ann := sits(t, "bob", 1, c), sits(t, "ann", 2, c)
		s.learns(ann.g.Card())
		most, more := make([]byte, mostPlain), make([]byte, mostPlain+1)
		most[mostPlain-1] = 7
		extra, long := make([]byte, mostExtra), make([]byte, mostExtra+1)
		extra[mostExtra-1] = 7
		ann.silent("a text too long", more, nil, api.PartPadding, api.ErrLong)
		ann.silent("both too long", more, long, api.PartPadding, api.ErrLong)
		ann.silent("an extra too long", nil, long, api.PartArgs, api.ErrLong)
		ann.silent("an extra too long", most, long, api.PartArgs, api.ErrLong)
		b, err := ann.send(most, extra)
		if err != nil {
			t.Fatal(err)
		}
		s.refuses("an extra too long", b, long, api.PartArgs, api.ErrLong)
		s.refuses("no extra", b, nil, api.PartBody, api.ErrBody)
		if said, err := s.receive(b, extra); err != nil || !bytes.Equal(said.Plain, most) {
			t.Errorf("%v", err)
		}
	}
}

// The chain goes up to its end, and not beyond; a new one goes on.
func TestSendToTheEnd(t *testing.T) {
	w := speak("ann", 1)
	w.num = mostCount - 2
	s, bob := from(t, w), sit(t, "bob", 2)
	bob.learns(w.card())
	for n := uint32(mostCount - 2); n < mostCount; n++ {
		b, err := s.send([]byte("near the end"), x)
		if err != nil {
			t.Fatal(err)
		}
		bob.hears(b, "ann", 0, n, "near the end")
	}
	for range 2 {
		s.silent("at the end", []byte("x"), x, api.PartRatchet, api.ErrExhausted)
		s.silent("at the end, an extra too long", nil, make([]byte, mostExtra+1), api.PartArgs, api.ErrLong)
		s.silent("at the end, a text too long", make([]byte, mostPlain+1), nil, api.PartPadding, api.ErrLong)
	}
	late := sit(t, "carl", 3)
	late.learns(s.g.Card()) // it tells a chain at its end
	must(t, "Renew", s.renew(seedOf(4)))
	bob.learns(s.g.Card())
	late.learns(s.g.Card())
	b, err := s.send([]byte("new"), x)
	if err != nil {
		t.Fatal(err)
	}
	bob.hears(b, "ann", 1, 0, "new")
	late.hears(b, "ann", 1, 0, "new")
}

// What a message says hangs on every part of it.
func TestSendOfAll(t *testing.T) {
	for _, me := range []string{"a", "annannannannanna"} {
		for _, gen := range []uint32{0, 1, 0x04030201, mostCount} {
			for _, num := range []uint32{0, 0x80000000, mostCount - 1} {
				w := speaks(me, 1, api.Config{Version: 2, Skip: 1})
				w.gen, w.num = gen, num
				if _, err := from(t, w).send([]byte("text"), []byte("extra")); err != nil {
					t.Error(err)
				}
			}
		}
	}
}
