package journal_test

import (
	"bytes"
	"crypto/sha256"
	"encoding/binary"
	"fmt"
	"slices"
	"strings"
	"testing"

	"pawl/api"
	"pawl/journal"
)

// P26.3 of the elder head, and P26.10.

func elderOf(l ...api.Change) []byte {
	b := []byte(elderText)
	for _, c := range l {
		b = append(b, elderRecord(c)...)
	}
	return b
}

// withSum is a record of the elder format with these bytes ahead of its sum.
func withSum(b ...byte) []byte {
	sum := sha256.Sum256(b)
	return append(b, sum[:4]...)
}

func TestElderRecords(t *testing.T) {
	long, more := strings.Repeat("n", 64), strings.Repeat("d", mostData)
	for _, c := range []struct {
		l    []api.Change
		want string
	}{
		{nil, ""},
		{[]api.Change{put("a", "")}, "a="},
		{[]api.Change{put("b", "1"), put("a", "2")}, "a=2 b=1"},
		{[]api.Change{put("a", "1"), put("a", "2"), put("a", "3")}, "a=3"},
		{[]api.Change{put("a", "1"), gone("a")}, ""},
		{[]api.Change{put("a", "1"), gone("a"), put("a", "2"), put("b", "")}, "a=2 b="},
		{[]api.Change{put(long, "1")}, long + "=1"},
		{[]api.Change{put("a", more)}, "a=" + more},
		{[]api.Change{put("!", strings.Repeat("d", 127)), put("~", strings.Repeat("e", 128))}, "!=" + strings.Repeat("d", 127) + " ~=" + strings.Repeat("e", 128)},
	} {
		b := elderOf(c.l...)
		opens(t, "elder", b, len(b), c.want)
		// Each record is a batch.
		at, w := 8, newByWords()
		for _, x := range c.l {
			at += len(elderRecord(x))
			can(w.entries, x)
			_, counts, _ := checkOpen(t, "as far as it stands", b[:at])
			if counts != at {
				t.Errorf("%d count, not %d", counts, at)
			}
		}
	}
}

// The journal that is left is what the entries need, and reads as the same entries; it goes on as any other.
func TestElderGoesOnInTheNewFormat(t *testing.T) {
	for _, n := range []int{0, 1, 14, 15, 16, 30, 31, 100, 4096, 4097, 9000} {
		l := puts(n)
		slices.Reverse(l)
		b := elderOf(append(l, put("a", "1"), gone("a"))...)
		s, counts, e := checkOpen(t, fmt.Sprintf("%d entries", n), b)
		if e != api.OK || counts != len(b) || !bytes.HasPrefix(s.Bytes(), []byte(headText)) {
			t.Fatalf("%d entries: %d count, %v", n, counts, e)
		}
		again, counts, e := checkOpen(t, "again", s.Bytes())
		if e != api.OK || counts != len(s.Bytes()) || entriesOf(again) != entriesOf(s) || again.Head() != s.Head() {
			t.Errorf("%d entries, again: %d count, %v", n, counts, e)
		}
		w, _, _ := openByWords(b)
		x := both{t, s, w}
		x.answers("more", api.OK, put("b", "1"))
		x.answers("no entry", api.ErrEntry, gone("a"))
		x.compact()
	}
}

// Cut at each byte; each byte turned; bytes put in and left out; each alone and with a whole record behind.
func TestElderSpoiled(t *testing.T) {
	l := []api.Change{put("a", "x"), put("b", "yy"), gone("a"), put("c", ""), put("a", strings.Repeat("z", 130)), gone("b")}
	b := elderOf(l...)
	for n := 8; n <= len(b); n++ {
		w := newByWords()
		at := 8
		for _, c := range l {
			if at += len(elderRecord(c)); at > n {
				at -= len(elderRecord(c))
				break
			}
			can(w.entries, c)
		}
		w.compact()
		s, counts, e := checkOpen(t, "cut", b[:n])
		if e != api.OK || counts != at {
			t.Fatalf("cut at %d: %d count, %v, not %d", n, counts, e, at)
		}
		checkStore(t, "cut", s, w)
	}
	for at := 8; at < len(b); at++ {
		for r := range 256 {
			c := slices.Clone(b)
			if c[at] = byte(r); bytes.Equal(b, c) {
				continue
			}
			if _, counts, _ := checkOpen(t, "spoiled", c); counts > at {
				t.Errorf("byte %d is %d, and %d count", at, r, counts)
			}
		}
		for _, r := range []byte{0, 1, 2, 0x80, 0xff} {
			checkOpen(t, "put in", slices.Insert(slices.Clone(b), at, r))
		}
		checkOpen(t, "left out", slices.Delete(slices.Clone(b), at, at+1))
	}
}

// Records whose sum is right, and which do not stand whole all the same.
func TestElderRecordsThatCantBe(t *testing.T) {
	start := elderOf(put("a", "x"))
	for _, c := range []struct {
		what   string
		record []byte
	}{
		{"no entry", elderRecord(gone("b"))},
		{"an empty name", elderRecord(put("", "1"))},
		{"an empty name, gone", elderRecord(gone(""))},
		{"a long name", elderRecord(put(strings.Repeat("n", 65), "1"))},
		{"a space", elderRecord(put("a b", "1"))},
		{"no ASCII", elderRecord(put("\x80", "1"))},
		{"127", elderRecord(put("\x7f", ""))},
		{"long data", elderRecord(put("a", strings.Repeat("d", mostData+1)))},
		{"kind 0", withSum(0, 1, 'a', 1, 'x')},
		{"kind 0, no data", withSum(0, 1, 'a')},
		{"kind 3", withSum(3, 1, 'a', 1, 'x')},
		{"kind 3, no data", withSum(3, 1, 'a')},
		{"kind 129", withSum(129, 1, 'a')},
		{"delete with data", withSum(2, 1, 'a', 1, 'x')},
		{"delete with no data", withSum(2, 1, 'a', 0)},
		{"put without data", withSum(1, 1, 'a')},
		{"a name's number of two bytes", withSum(1, 0x81, 0, 'a', 1, 'x')},
		{"a name's number of two bytes, gone", withSum(2, 0x81, 0, 'a')},
		{"a data's number of two bytes", withSum(1, 1, 'a', 0x81, 0, 'x')},
		{"a data's number 0 of two bytes", withSum(1, 1, 'a', 0x80, 0)},
		{"no name's number", withSum(1)},
		{"the kind alone", []byte{1}},
		{"the other kind alone", []byte{2}},
	} {
		for _, behind := range [][]byte{nil, elderRecord(put("c", "1")), elderRecord(gone("a"))} {
			opens(t, c.what, slices.Concat(start, c.record, behind), len(start), "a=x")
			opens(t, c.what+", first", slices.Concat([]byte(elderText), c.record, behind), 8, "")
		}
	}
	good := slices.Concat(start, withSum(2, 1, 'a'))
	opens(t, "gone", good, len(good), "")
	for _, n := range []uint64{128, 1 << 31, 1<<32 + 1, 1<<63 - 1, 1 << 63, 1<<63 + 1, 1<<64 - 1, 1<<64 - 4} {
		form := binary.AppendUvarint(nil, n)
		opens(t, "a great name", slices.Concat(start, withSum(slices.Concat([]byte{1}, form, []byte{'a', 1, 'x'})...)), len(start), "a=x")
		opens(t, "great data", slices.Concat(start, withSum(slices.Concat([]byte{1, 1, 'a'}, form, []byte{'x'})...)), len(start), "a=x")
		opens(t, "a great name, gone", slices.Concat(start, withSum(slices.Concat([]byte{2}, form, []byte{'a'})...)), len(start), "a=x")
	}
}

// Every bit of a sum answers; the sum is that of its record alone.
func TestElderSums(t *testing.T) {
	start := elderOf(put("a", "x"))
	b := slices.Concat(start, elderRecord(put("b", "y")))
	for i := range 32 {
		c := slices.Clone(b)
		c[len(c)-4+i/8] ^= 1 << (i % 8)
		opens(t, "a bit", c, len(start), "a=x")
	}
	swapped := slices.Concat([]byte(elderText), elderRecord(put("b", "y")), elderRecord(put("a", "x")))
	opens(t, "in another order", swapped, len(swapped), "a=x b=y")
	twice := slices.Concat(start, start[8:])
	opens(t, "twice", twice, len(twice), "a=x")
}

// No format's records stand whole behind the other one's head.
func TestFormatsDoNotMix(t *testing.T) {
	w := newByWords()
	w.apply([]api.Change{put("a", "x")})
	opens(t, "new records behind the elder head", append([]byte(elderText), w.journal[8:]...), 8, "")
	opens(t, "elder records behind the new head", append([]byte(headText), elderOf(put("a", "x"))[8:]...), 8, "")
	b := append(slices.Clone(w.journal), elderRecord(put("b", ""))...)
	opens(t, "an elder record behind new ones", b, len(w.journal), "a=x")
	// What is left of the elder format is none of it.
	s, _, _ := journal.Open(elderOf(put("a", "x")))
	if !bytes.Equal(s.Bytes(), w.journal) {
		t.Errorf("%x", s.Bytes())
	}
}

// Drawn journals of the elder format.
func TestElderDrawn(t *testing.T) {
	for seed := range int64(60) {
		d := newDrawer(seed, 200, "a", "b", "cc", "ddd", "!", "~~")
		w := newByWords()
		l := d.batch(w, 1+d.Intn(60))
		b := elderOf(l...)
		for _, c := range l {
			can(w.entries, c)
		}
		w.compact()
		s, counts, e := checkOpen(t, "drawn", b)
		if e != api.OK || counts != len(b) {
			t.Fatalf("%d of %d count, %v", counts, len(b), e)
		}
		checkStore(t, "drawn", s, w)
		// With changes among them that may not be.
		var loose []api.Change
		for range 20 {
			loose = append(loose, d.change())
		}
		checkOpen(t, "drawn, loose", elderOf(loose...))
		b[8+d.Intn(len(b)-8)] ^= 1 << d.Intn(8)
		checkOpen(t, "drawn, spoiled", b)
	}
}
