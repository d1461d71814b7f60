package trust_test

import (
	"bytes"
	"encoding/hex"
	"errors"
	"slices"
	"strings"
	"testing"

	"pawl/api"
	"pawl/trust"
)

// P22.9, and of P22.10 what bytes come to.

// checkImport holds Import against the words; what it takes, Export makes again. It answers why b is refused.
func checkImport(t *testing.T, b []byte) api.Errno {
	t.Helper()
	w, want := importByWords(t, b)
	got, err := trust.Import(b)
	if want == nil {
		if err != nil || got == nil {
			t.Fatalf("Import(%x): %v", b, err)
		}
		checkBook(t, "Import", got, w)
		if again := got.Export(); !bytes.Equal(again, b) {
			t.Fatalf("Export of Import(%x): %x", b, again)
		}
		return api.OK
	}
	f, is := err.(*api.Fault)
	if got != nil || !is || f == nil || *f != *want || !errors.Is(err, want.Why) {
		t.Fatalf("Import(%x): %v, %v, not %v", b, got, err, want)
	}
	return want.Why
}

// misread: b is refused, at that place.
func misread(t *testing.T, what string, b []byte, at int, why api.Errno) {
	t.Helper()
	got, err := trust.Import(b)
	f, is := err.(*api.Fault)
	if got != nil || !is || f == nil || *f != (api.Fault{At: at, Why: why}) {
		t.Errorf("%s: %v, %v, not %d at %d", what, got, err, why, at)
	}
	checkImport(t, b)
}

func unhex(t *testing.T, text string) []byte {
	t.Helper()
	b, err := hex.DecodeString(strings.ReplaceAll(text, " ", ""))
	if err != nil {
		t.Fatal(err)
	}
	return b
}

// small is a book of three events, and its bytes.
func small(t *testing.T) (*both, []byte) {
	t.Helper()
	s := newBoth(t, api.Key{0: 0xaa, 31: 0xbb})
	s.do(see("ann", api.Key{0: 1, 31: 2}))
	s.do(see("bob", zero))
	s.do(block("ann"))
	return s, s.b.Export()
}

func TestBytes(t *testing.T) {
	nothing := strings.Repeat("00", 30)
	want := unhex(t, "0a20 aa"+nothing+"bb 127e"+
		"29 0801 1203 616e6e 1a20 01"+nothing+"02"+
		"29 0801 1203 626f62 1a20 00"+nothing+"00"+
		"29 0805 1203 616e6e 1a20 00"+nothing+"00")
	s, got := small(t)
	if len(want) != 36+3*42 || !bytes.Equal(got, want) {
		t.Fatalf("Export: %x, not %x", got, want)
	}
	s.check("Export")
	if e := checkImport(t, want); e != api.OK {
		t.Error(e)
	}
}

// Every kind of event in the bytes, and names of every length.
func TestBytesOfAll(t *testing.T) {
	for n := 1; n <= 16; n++ {
		name := strings.Repeat("q", n)
		s := newBoth(t, own)
		for _, c := range []call{see(name, x), see(name, y), accept(name), see(name, z), confirm(name, numberOf(own, z)), block(name), unblock(name), forget(name)} {
			s.do(c)
			s.check(c.String())
			if e := checkImport(t, s.b.Export()); e != api.OK {
				t.Fatal(e)
			}
		}
		if len(s.b.Events()) != 8 {
			t.Errorf("%d events", len(s.b.Events()))
		}
	}
}

// Bytes that no book are, with the place and the reason.
func TestMisread(t *testing.T) {
	_, b := small(t)
	change := func(at int, to byte) []byte {
		c := slices.Clone(b)
		c[at] = to
		return c
	}
	misread(t, "no bytes", nil, 0, api.ErrSlots)
	misread(t, "without the list", b[:34], 34, api.ErrSlots)
	misread(t, "cut within the own key", b[:33], 1, api.ErrCut)
	misread(t, "one byte too few", b[:len(b)-1], 35, api.ErrCut)
	misread(t, "one byte more", append(slices.Clone(b), 0), len(b), api.ErrOrder)
	misread(t, "a field more", append(slices.Clone(b), 0x18, 0), len(b), api.ErrSlots)
	misread(t, "a short own key", slices.Concat([]byte{0x0a, 0x1f}, make([]byte, 31), []byte{0x12, 0}), 0, api.ErrRange)
	misread(t, "a long own key", slices.Concat([]byte{0x0a, 0x21}, make([]byte, 33), []byte{0x12, 0}), 0, api.ErrRange)
	misread(t, "kind 0", change(38, 0), 37, api.ErrRange)
	misread(t, "kind 8", change(38, 8), 37, api.ErrRange)
	misread(t, "kind 2", change(38, 2), 34, api.ErrEvent)
	misread(t, "no UTF-8", change(41, 0xff), 39, api.ErrForm)
	misread(t, "a great letter", change(41, 'A'), 34, api.ErrEvent)
	misread(t, "a name of 0", change(43, 0), 34, api.ErrEvent)
	misread(t, "another one blocked", change(125, 'c'), 34, api.ErrEvent)
	misread(t, "blocked with a key", change(len(b)-1, 1), 34, api.ErrEvent)
	misread(t, "the first one again", change(122, 1), 34, api.ErrEvent)
	head := slices.Concat([]byte{0x0a, 0x20}, make([]byte, 32))
	event := func(name string) []byte {
		return slices.Concat([]byte{0x12, byte(39 + len(name)), byte(38 + len(name)), 0x08, 1, 0x12, byte(len(name))}, []byte(name), []byte{0x1a, 0x20}, make([]byte, 32))
	}
	misread(t, "an empty name", slices.Concat(head, event("")), 39, api.ErrRange)
	misread(t, "a name of 17", slices.Concat(head, event(strings.Repeat("a", 17))), 39, api.ErrRange)
	misread(t, "a name that is none", slices.Concat(head, event("ö")), 34, api.ErrEvent)
	if e := checkImport(t, slices.Concat(head, event(strings.Repeat("a", 16)))); e != api.OK {
		t.Error(e)
	}
}

// One byte of a book's bytes turned to each other value; cut at each place; with bytes put in at each place.
func TestSpoiled(t *testing.T) {
	_, b := small(t)
	found := map[api.Errno]int{}
	for at := range b {
		for to := range 256 {
			c := slices.Clone(b)
			c[at] = byte(to)
			found[checkImport(t, c)]++
		}
		if e := checkImport(t, b[:at]); e == api.OK {
			t.Errorf("the first %d bytes are a book", at)
		}
		for _, more := range []byte{0, 1, 0x2c, 'a', 0x80, 0xff} {
			found[checkImport(t, slices.Insert(slices.Clone(b), at, more))]++
		}
		found[checkImport(t, slices.Delete(slices.Clone(b), at, at+1))]++
	}
	for _, e := range []api.Errno{api.OK, api.ErrEvent, api.ErrRange, api.ErrForm, api.ErrSlots, api.ErrKind, api.ErrCut, api.ErrOrder, api.ErrType} {
		if found[e] == 0 {
			t.Errorf("nothing is answered %v", e)
		}
	}
}

// As many events as there may be, and one more.
func TestManyEventsInBytes(t *testing.T) {
	for _, n := range []int{0, 1, 2, 3, 1023, 1024} {
		for _, name := range []string{"a", strings.Repeat("z", 16)} {
			w := &told{own, filled(n, name)}
			if e := checkImport(t, w.export()); e != api.OK {
				t.Errorf("%d events: %v", n, e)
			}
			bothOf(t, own, w.events).check("Replay")
		}
	}
	misread(t, "1025 events", (&told{own, filled(1025, "ann")}).export(), 34, api.ErrRange)
	misread(t, "4097 events", (&told{own, filled(4097, "ann")}).export(), 38+4096*42, api.ErrLong)
	wrong := filled(1024, "ann")
	wrong[1023].Key = x
	misread(t, "the last one of 1024 wrong", (&told{own, wrong}).export(), 34, api.ErrEvent)
}

// Bytes drawn, of which most are none: a list of drawn events behind a key.
func TestDrawnBytes(t *testing.T) {
	d := newDrawer(2201, own, []string{"a", "b"}, zero, x, y)
	found := map[api.Errno]int{}
	for range 20000 {
		w := &told{own: own}
		for range d.Intn(5) {
			e := api.Event{Kind: 1 + d.Intn(7), Name: d.names[d.Intn(2)]}
			if e.Kind <= 4 {
				e.Key = d.keys[d.Intn(3)]
			}
			w.events = append(w.events, e)
		}
		found[checkImport(t, w.export())]++
		checkReplay(t, w.events)
	}
	if found[api.OK] < 500 || found[api.ErrEvent] < 500 {
		t.Errorf("%v", found)
	}
}
