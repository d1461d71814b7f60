package session_test

import (
	"bytes"
	"slices"
	"testing"

	"pawl/api"
	"pawl/session"
)

// What is handed in is neither changed nor kept, and what is given is new memory, room too.

// fill overwrites a list, room too.
func fill(b []byte) {
	b = b[:cap(b)]
	for i := range b {
		b[i] ^= 0xa5
	}
}

func fillSpares(l []api.Spare) {
	l = l[:cap(l)]
	for i := range l {
		l[i] = api.Spare{Header: api.Key{0xa5}, N: 7, Message: api.Key{0xa5}}
	}
}

// handed is a list as it is handed in, with room behind it, and all that it stands in.
type handed struct{ list, whole, was []byte }

func hand(b []byte) handed {
	whole := slices.Concat(b, []byte{0x11, 0x22, 0x33})
	return handed{whole[:len(b)], whole, slices.Clone(whole)}
}

// spoil holds that lists are as they were handed in, and then overwrites them.
func spoil(t *testing.T, l ...handed) {
	t.Helper()
	for i, h := range l {
		if !bytes.Equal(h.whole, h.was) {
			t.Fatalf("the list %d that was handed in has changed", i)
		}
		fill(h.whole)
	}
}

func TestMemoryOfBeginnings(t *testing.T) {
	own := bobPair()
	for _, last := range [][]byte{own.Public[:], bobSeed()} {
		alice, bob := sides(t, good)
		x, begin := alice, session.Alice
		if &last[0] != &own.Public[0] {
			x, begin = bob, session.Bob
		}
		l := []handed{hand(rootKey()), hand(keyA()), hand(keyB()), hand(last)}
		s, err := begin(l[0].list, l[1].list, l[2].list, l[3].list, good)
		if err != nil {
			t.Fatal(err)
		}
		spoil(t, l...)
		duo{s, x.w}.stands(t, "behind a change of what was handed in")
	}
}

func TestMemoryOfSend(t *testing.T) {
	d := newDrawer(970)
	for _, n := range []int{0, 1, 60, 61, 200} {
		for _, turn := range []bool{false, true} {
			s := d.full(good, 2)
			s.Turn = turn
			plain, extra, seed := hand(d.bytes(n)), hand(d.bytes(n/2)), hand(d.bytes(32))
			x, y := from(t, s), from(t, s)
			one, err := x.send(t, plain.list, extra.list, seed.list)
			other, _ := y.send(t, plain.list, extra.list, seed.list)
			if err != nil {
				t.Fatal(err)
			}
			was := slices.Clone(one)
			spoil(t, plain, extra, seed)
			if !bytes.Equal(one, was) {
				t.Fatal("an answer changes with what was handed in")
			}
			x.stands(t, "behind a change of what was handed in")
			fill(one)
			if !bytes.Equal(other, was) {
				t.Fatal("an answer changes with another one")
			}
			x.stands(t, "behind a change of what was given")
			if a, b := x.sends(t, "next", 1), y.sends(t, "next", 1); !bytes.Equal(a, b) {
				t.Fatal("the next one hangs on what was done to the last one")
			}
		}
	}
}

func TestMemoryOfReceive(t *testing.T) {
	d := newDrawer(971)
	s := d.full(api.Config{Version: 1, Skip: 3, Store: 9}, 3)
	for _, l := range []letter{bySpare(s, 1), byChain(s, 1), byTurn(s, d.pair().Public, 7, 2)} {
		for _, n := range []int{0, 1, 60, 100} {
			plain := string(d.bytes(n))
			b, extra, bad := hand(l.says(plain)), hand([]byte("x")), hand(l.bytes(make([]byte, 128), nil))
			x, y := from(t, s), from(t, s)
			if _, err := x.receive(t, bad.list, nil); err == nil {
				t.Fatal("wrong padding is heard")
			}
			one, err := x.receive(t, b.list, extra.list)
			other, _ := y.receive(t, b.list, extra.list)
			if err != nil {
				t.Fatal(err)
			}
			spoil(t, b, extra, bad)
			if string(one.Plain) != plain {
				t.Fatal("an answer changes with what was handed in")
			}
			x.stands(t, "behind a change of what was handed in")
			fill(one.Plain)
			if string(other.Plain) != plain {
				t.Fatal("an answer changes with another one")
			}
			x.stands(t, "behind a change of what was given")
		}
	}
}

func TestMemoryOfStates(t *testing.T) {
	d := newDrawer(972)
	for n := range 9 {
		s := d.full(api.Config{Version: 1, Skip: 3, Store: 15}, n)
		whole := slices.Concat(s.Spares, []api.Spare{{N: 1}, {N: 2}})
		was := slices.Clone(whole)
		s.Spares = whole[:n]
		b, err := session.Encode(s)
		if err != nil || !slices.Equal(whole, was) {
			t.Fatalf("%v, or what was handed in has changed", err)
		}
		fillSpares(whole)
		s.Spares = was[:n]
		if !bytes.Equal(b, bytesByWords(s)) {
			t.Fatal("an answer changes with what was handed in")
		}
		again, _ := session.Encode(s)
		fill(again)
		if !bytes.Equal(b, bytesByWords(s)) {
			t.Fatal("an answer changes with another one")
		}
	}
}

func TestMemoryOfBytes(t *testing.T) {
	d := newDrawer(973)
	for n := range 9 {
		s := d.full(api.Config{Version: 1, Skip: 3, Store: 15}, n)
		b := hand(bytesByWords(s))
		one, err := session.Decode(b.list)
		other, _ := session.Decode(b.list)
		x, bad := session.Import(b.list)
		if err != nil || bad != nil {
			t.Fatal(err, bad)
		}
		spoil(t, b)
		if !same(one, s) {
			t.Fatal("an answer changes with what was handed in")
		}
		fillSpares(one.Spares)
		if !same(other, s) {
			t.Fatal("an answer changes with another one")
		}
		fillSpares(other.Spares)
		duo{x, &sideByWords{s}}.stands(t, "behind a change of what was handed in, and of what was given")
	}
}

// What State and Export give is nobody's but the caller's.
func TestMemoryOfWhatIsKept(t *testing.T) {
	d := newDrawer(974)
	x := from(t, d.full(api.Config{Version: 1, Skip: 3, Store: 15}, 6))
	one, other := x.s.State(), x.s.State()
	fillSpares(one.Spares)
	if !same(other, x.w.s) {
		t.Fatal("an answer changes with another one")
	}
	down, again := x.s.Export(), x.s.Export()
	fill(down)
	if !bytes.Equal(again, bytesByWords(x.w.s)) {
		t.Fatal("an answer changes with another one")
	}
	x.stands(t, "behind a change of what was given")
	kept := copied(other)
	x.forget(t, 2)
	x.hears(t, byChain(x.w.s, 2).says("said"), "said", 2, 3)
	if was := bytesByWords(kept); !same(other, kept) || !bytes.Equal(again, was) {
		t.Fatal("an answer changes with the session")
	}
}

// Bytes and states that are refused are not changed either, and an error is a new one each time.
func TestMemoryOfRefusals(t *testing.T) {
	d := newDrawer(975)
	s := d.full(good, 4)
	wrong := copied(s)
	wrong.Spares = append(wrong.Spares, wrong.Spares[1])
	was := slices.Clone(wrong.Spares)
	cut, export := hand(bytesByWords(s)[:200]), hand(bytesByWords(wrong))
	x := from(t, s)
	silent := from(t, s)
	silent.w.s.Turn = true
	silent = from(t, silent.w.s)
	turnedOne := hand(turned(byChain(s, 0).says("said"), 1000))
	for what, call := range map[string]func() error{
		"Alice":                      func() error { _, err := session.Alice(nil, nil, nil, nil, good); return err },
		"Bob":                        func() error { _, err := session.Bob(nil, nil, nil, nil, good); return err },
		"Encode":                     func() error { _, err := session.Encode(wrong); return err },
		"Decode of what is cut":      func() error { _, err := session.Decode(cut.list); return err },
		"Decode of what can't be":    func() error { _, err := session.Decode(export.list); return err },
		"Import":                     func() error { _, err := session.Import(cut.list); return err },
		"Send":                       func() error { _, err := silent.s.Send(nil, nil, nil); return err },
		"Receive of no envelope":     func() error { _, err := x.s.Receive(cut.list, nil); return err },
		"Receive of what was turned": func() error { _, err := x.s.Receive(turnedOne.list, nil); return err },
	} {
		one, other := call(), call()
		first, is := one.(*api.Wrap)
		if !is || one == other || !sameError(one, other) {
			t.Fatalf("%s: %v and %v", what, one, other)
		}
		if f, is := first.Err.(*api.Fault); is {
			f.At, f.Why = -7, api.ErrArg
		}
		first.Part, first.Err = 99, api.ErrArg
		if third := call(); !sameError(third, other) {
			t.Fatalf("%s: an error changes with another one", what)
		}
	}
	if !slices.Equal(wrong.Spares, was) {
		t.Fatal("what was handed in has changed")
	}
	spoil(t, cut, export, turnedOne)
	x.stands(t, "behind refusals")
}
