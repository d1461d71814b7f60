package group_test

import (
	"bytes"
	"math"
	"slices"
	"strings"
	"testing"

	"pawl/api"
	"pawl/group"
)

// P24.1, P24.2, P24.6 and P24.7: a member's own, and who is known.

// checkNew holds New against the words.
func checkNew(t *testing.T, id api.Key, me string, seed []byte, c api.Config) api.Errno {
	t.Helper()
	w, want := newByWords(id, me, seed, c)
	g, got := group.New(id, me, seed, c)
	if got != want || (g != nil) != (want == api.OK) {
		t.Fatalf("New(%q, %d bytes, %v): %v, %v, not %v", me, len(seed), c, g != nil, got, want)
	}
	if g != nil {
		(&seat{t: t, g: g, w: w}).stands("New")
	}
	return got
}

func TestNew(t *testing.T) {
	for _, version := range []int{1, 2} {
		for _, skip := range []int{0, 1, 999, 1000} {
			for _, store := range []int{0, 1, 1999, 2000} {
				must(t, "New", checkNew(t, here, "ann", seedOf(1), api.Config{Version: version, Skip: skip, Store: store}))
			}
		}
	}
	for _, me := range []string{"a", "z", "annann", "abcdefghijklmnop", "qrstuvwxyzzzzzzz"} {
		must(t, me, checkNew(t, here, me, seedOf(1), good))
	}
	for _, seed := range [][]byte{make([]byte, 32), bytes.Repeat([]byte{0xff}, 32)} {
		for _, id := range []api.Key{{}, {31: 1}, {0: 255}} {
			must(t, "New", checkNew(t, id, "ann", seed, good))
		}
	}
	for bit := range 256 { // every bit of the seed counts
		if bit%11 == 0 {
			must(t, "New", checkNew(t, here, "ann", turned(seedOf(1), bit), good))
		}
	}
}

func TestNewRefused(t *testing.T) {
	for _, version := range []int{0, 3, -1, 4, 257, math.MaxInt, math.MinInt, 1<<32 + 1} {
		for _, me := range []string{"ann", ""} {
			if e := checkNew(t, here, me, seedOf(1)[:len(me)], api.Config{Version: version, Skip: -1, Store: -1}); e != api.ErrVersion {
				t.Errorf("version %d: %v", version, e)
			}
		}
		if e := checkNew(t, here, "ann", seedOf(1), api.Config{Version: version, Skip: 5, Store: 9}); e != api.ErrVersion {
			t.Errorf("version %d: %v", version, e)
		}
	}
	for _, seed := range [][]byte{seedOf(1), nil} {
		for _, n := range []int{-1, -1000, 1001, 2001, 1 << 32, math.MaxInt, math.MinInt} {
			if e := checkNew(t, here, "ann", seed, api.Config{Version: 1, Skip: n, Store: 9}); e != api.ErrArg {
				t.Errorf("Skip %d: %v", n, e)
			}
			if n == 1001 {
				n = 2002
			}
			if e := checkNew(t, here, "ann", seed, api.Config{Version: 2, Skip: 5, Store: n}); e != api.ErrArg {
				t.Errorf("Store %d: %v", n, e)
			}
		}
		for _, me := range []string{"", "Ann", "ann ", " ann", "an1", "a_n", "ön", "abcdefghijklmnopq", strings.Repeat("a", 1000), "a\x00", "`", "{", "\xff"} {
			if e := checkNew(t, here, me, seed, good); e != api.ErrArg {
				t.Errorf("%q: %v", me, e)
			}
		}
	}
	for _, n := range []int{0, 1, 31, 33, 64, 1 << 16} {
		if e := checkNew(t, here, "ann", make([]byte, n), good); e != api.ErrSize {
			t.Errorf("a seed of %d bytes: %v", n, e)
		}
	}
}

// A card tells the chain as it is now.
func TestCard(t *testing.T) {
	for _, c := range []api.Config{good, {Version: 2}} {
		s := sits(t, "ann", 1, c)
		for n := range 4 {
			if got, want := s.g.Card(), s.w.card(); !bytes.Equal(got, want) || s.w.num != uint32(n) {
				t.Fatalf("Card is %x, not %x", got, want)
			}
			if _, err := s.send([]byte("text"), nil); err != nil {
				t.Fatal(err)
			}
		}
		must(t, "Renew", s.renew(seedOf(2)))
		if got, want := s.g.Card(), s.w.card(); !bytes.Equal(got, want) || s.w.num != 0 {
			t.Fatalf("Card is %x, not %x", got, want)
		}
	}
}

func TestRenew(t *testing.T) {
	s := sit(t, "ann", 1)
	s.learns(speak("bob", 2).card())
	bob := speak("eve", 3)
	s.learns(bob.card())
	l := bob.saysAll(3)
	s.hears(l[2], "eve", 0, 2, "2")
	for i := range 5 {
		must(t, "Renew", s.renew(seedOf(byte(10+i))))
		if got := s.g.Gen(); got != uint32(1+i) {
			t.Fatalf("Gen: %d", got)
		}
		for _, n := range []int{0, 1, 31, 33, 64} {
			if e := s.renew(make([]byte, n)); e != api.ErrSize {
				t.Errorf("a seed of %d bytes: %v", n, e)
			}
		}
		s.w.says("x")
		if _, err := s.g.Send([]byte("x"), x); err != nil {
			t.Fatal(err)
		}
		s.stands("behind Send")
	}
	must(t, "Renew with the same seed", s.renew(seedOf(14)))
	s.hears(l[0], "eve", 0, 0, "0")
	s.hears(l[1], "eve", 0, 1, "1")
}

// The last generation is reached, and none behind it.
func TestRenewToTheEnd(t *testing.T) {
	w := speak("ann", 1)
	w.gen, w.num = mostCount-2, 77
	w.learn(speak("bob", 2).card())
	s := from(t, w)
	must(t, "Renew", s.renew(seedOf(3)))
	must(t, "Renew", s.renew(seedOf(4)))
	if got := s.g.Gen(); got != mostCount {
		t.Fatalf("Gen: %d", got)
	}
	for range 2 {
		if e := s.renew(seedOf(5)); e != api.ErrExhausted {
			t.Errorf("behind the last generation: %v", e)
		}
		if e := s.renew(nil); e != api.ErrSize {
			t.Errorf("behind the last generation, without a seed: %v", e)
		}
		if e := s.remove("bob", seedOf(5)); e != api.ErrExhausted {
			t.Errorf("Remove behind the last generation: %v", e)
		}
		if e := s.remove("bob", nil); e != api.ErrSize {
			t.Errorf("Remove behind the last generation, without a seed: %v", e)
		}
	}
	if _, err := s.send([]byte("still"), x); err != nil {
		t.Error(err)
	}
}

func TestRemove(t *testing.T) {
	s := sit(t, "eve", 1)
	names := []string{"zoe", "bob", "ann", "fay", "e", "evee"}
	for i, name := range names {
		s.learns(speak(name, byte(10+i)).card())
	}
	if got := s.g.Members(); !slices.Equal(got, []string{"ann", "bob", "e", "eve", "evee", "fay", "zoe"}) {
		t.Fatalf("Members: %v", got)
	}
	for i, name := range names {
		for _, seed := range [][]byte{nil, seedOf(7)} { // refusals, whatever stands behind them
			if e := s.remove("eve", seed); e != api.ErrSelf {
				t.Errorf("oneself: %v", e)
			}
			for _, no := range []string{"", "Ann", "ev", "evef", "an", "annn", "zoea", "nobody", strings.Repeat("a", 1000), "ann\x00"} {
				if e := s.remove(no, seed); e != api.ErrMember {
					t.Errorf("%q: %v", no, e)
				}
			}
		}
		if e := s.remove(name, make([]byte, 31)); e != api.ErrSize {
			t.Errorf("a seed of 31 bytes: %v", e)
		}
		must(t, name, s.remove(name, seedOf(byte(50+i))))
		if e := s.remove(name, seedOf(1)); e != api.ErrMember {
			t.Errorf("%s again: %v", name, e)
		}
		if got := s.g.Gen(); got != uint32(1+i) {
			t.Errorf("Gen: %d", got)
		}
	}
	if got := s.g.Members(); !slices.Equal(got, []string{"eve"}) {
		t.Errorf("Members: %v", got)
	}
}

// Who was removed is a stranger again, of whatever generation the next card is; what was kept of them is gone, and of nobody else.
func TestRemoveForgets(t *testing.T) {
	s := sit(t, "ann", 1)
	bob, eve := speak("bob", 2), speak("eve", 3)
	bob.gen = 5
	first := bob.card()
	s.learns(first)
	s.learns(eve.card())
	elder, others := bob.saysAll(3), eve.saysAll(3)
	s.hears(elder[1], "bob", 5, 1, "1")
	s.hears(others[2], "eve", 0, 2, "2")
	must(t, "Renew", bob.renew(seedOf(4)))
	s.learns(bob.card())
	newer := bob.saysAll(3)
	s.hears(newer[2], "bob", 6, 2, "2")
	must(t, "Remove", s.remove("bob", seedOf(9)))
	if n := len(s.w.spares); n != 2 {
		t.Fatalf("%d spares", n)
	}
	for _, b := range [][]byte{elder[0], elder[2], newer[0], newer[1], newer[2]} {
		s.refuses("of who was removed", b, x, api.PartRatchet, api.ErrMember)
	}
	s.hears(others[0], "eve", 0, 0, "0")
	s.learns(first)
	s.hears(elder[1], "bob", 5, 1, "1") // it is another card now, that knows of nothing
	s.hears(elder[0], "bob", 5, 0, "0")
	s.refuses("of a card that is not known", newer[0], x, api.PartRatchet, api.ErrMember)
	s.hears(others[1], "eve", 0, 1, "1")
}
