package session_test

import (
	"bytes"
	"slices"
	"testing"

	"pawl/api"
	"pawl/envelope"
	"pawl/session"
)

// The chapter's examples.

func TestExampleOne(t *testing.T) {
	d := newDrawer(950)
	keys := [4][]byte{d.bytes(31), d.bytes(32), d.bytes(32), d.bytes(32)}
	notBegun(t, "Alice", session.Alice, keys, good, api.ErrSize)
	keys[0] = d.bytes(32)
	notBegun(t, "Alice", session.Alice, keys, api.Config{Version: 3}, api.ErrVersion)
	notBegun(t, "Alice", session.Alice, keys, api.Config{Version: 1, Skip: 1001}, api.ErrArg)
}

func TestExampleTwo(t *testing.T) {
	alice, bob := sides(t, good)
	for _, seed := range [][]byte{nil, seedOf(1), seedOf(1)[:31]} {
		bob.silent(t, []byte("no"), nil, seed, wrap(api.PartRatchet, api.ErrSilent))
	}
	alice.silent(t, []byte("no"), nil, nil, wrap(api.PartArgs, api.ErrSize))
	alice.sends(t, "first", 1)
	if b, err := alice.send(t, []byte("second"), nil, nil); err != nil || len(b) == 0 {
		t.Errorf("with an empty seed: %v", err)
	}
}

func TestExampleThree(t *testing.T) {
	_, bob := sides(t, api.Config{Version: 1, Skip: 1, Store: 1})
	alice, _ := sides(t, api.Config{Version: 2, Skip: 1, Store: 1})
	bob.refuses(t, nil, nil, wrap(api.PartEnvelope, &api.Fault{Line: 0, At: 0, Why: api.ErrSlots}), 0, 0)
	bob.refuses(t, alice.sends(t, "hi", 1), []byte("x"), wrap(api.PartEnvelope, api.ErrVersion), 0, 0)
}

func TestExampleFour(t *testing.T) {
	alice, _ := sides(t, api.Config{Version: 1, Skip: 5, Store: 7})
	b := alice.s.Export()
	peer := bobPair().Public
	want := slices.Concat(
		[]byte{0x08, 1, 0x10, 5, 0x18, 7, 0x22, 0x20}, rootKey(),
		[]byte{0x2a, 0, 0x32, 0x23, 0x22, 0x0a, 0x20}, peer[:],
		[]byte{0x38, 1, 0x42, 0, 0x4a, 0x20}, keyA(),
		[]byte{0x55, 0, 0, 0, 0, 0x5a, 0, 0x62, 0x20}, keyB(),
		[]byte{0x6a, 0})
	if len(b) != 160 || !bytes.Equal(b, want) {
		t.Fatalf("%d bytes: %x, not %x", len(b), b, want)
	}
	for more := range 256 {
		s, err := session.Import(append(slices.Clone(b), byte(more)))
		w, is := err.(*api.Wrap)
		if s != nil || !is || w.Part != api.PartState {
			t.Fatalf("with the byte %x more: %v, %v", more, s, err)
		}
		if _, is := w.Err.(*api.Fault); !is {
			t.Fatalf("with the byte %x more: %v", more, err)
		}
	}
}

func TestExampleFive(t *testing.T) {
	d := newDrawer(951)
	s := d.full(good, 0)
	s.HasOwn, s.Own = false, api.Pair{}
	undone(t, "no pair, a sending chain", bytesByWords(s), wrap(api.PartState, api.ErrExport))
}

// DOC.md's examples of the whole, 2 to 10.
func TestExamplesOfTheWhole(t *testing.T) {
	alice, bob := sides(t, api.Config{Version: 1, Skip: 5, Store: 9})
	bob.silent(t, nil, nil, seedOf(1), wrap(api.PartRatchet, api.ErrSilent))
	hi := alice.sends(t, "hi", 1)
	sixty := alice.sends(t, string(make([]byte, 60)), 1)
	more := alice.sends(t, string(make([]byte, 61)), 1)
	if n, _ := envelope.Length(1, 2); len(hi) != n || len(sixty) != n || len(more) != n+65 {
		t.Errorf("%d, %d, %d bytes", len(hi), len(sixty), len(more))
	}
	bob.hears(t, hi, "hi", 1, 1)
	bob.refuses(t, hi, []byte("x"), wrap(api.PartRatchet, api.ErrOld), 1, 0)
	third := alice.sends(t, "third", 1)
	bob.hears(t, third, "third", 1, 3)
	if n := len(bob.s.State().Spares); n != 2 {
		t.Errorf("%d spares", n)
	}
	bob.hears(t, sixty, string(make([]byte, 60)), 1, 0)
	back := bob.sends(t, "back", 2)
	alice.hears(t, back, "back", 1, 1)
	if !alice.s.State().Turn {
		t.Error("no turn")
	}
	other, err := session.Import(bob.s.Export())
	if err != nil {
		t.Fatal(err)
	}
	duo{other, &sideByWords{copied(bob.w.s)}}.hears(t, more, string(make([]byte, 61)), 1, 0)
	bob.hears(t, more, string(make([]byte, 61)), 1, 0)
}

// Examples 6, 7 and 10 of the whole: what lies too far ahead, and a counter at its end.
func TestExamplesOfBounds(t *testing.T) {
	alice, bob := sides(t, api.Config{Version: 1, Skip: 1, Store: 9})
	l := alice.sendsAll(t, 4, 1)
	bob.hears(t, l[0], "0", 1, 1)
	bob.refuses(t, l[3], []byte("x"), wrap(api.PartRatchet, api.ErrSkip), 1, 0)
	bob.hears(t, l[1], "1", 1, 1)
	alice, bob = sides(t, api.Config{Version: 1, Skip: 5, Store: 2})
	l = alice.sendsAll(t, 5, 1)
	bob.hears(t, l[1], "1", 1, 2)
	bob.refuses(t, l[4], []byte("x"), wrap(api.PartRatchet, api.ErrStore), 1, 0)
	without := from(t, bob.s.State())
	without.hears(t, l[2], "2", 1, 1)
	if bob.forget(t, 1) != 1 {
		t.Fatal("Forget")
	}
	bob.hears(t, l[4], "4", 1, 3)
	s := alice.s.State()
	s.SendN = mostCount
	x := from(t, s)
	x.silent(t, nil, nil, seedOf(1), wrap(api.PartRatchet, api.ErrExhausted))
	back := bob.sends(t, "back", 2)
	x.hears(t, back, "back", 1, 1)
	x.sends(t, "again", 3)
}
