package journal_test

import (
	"bytes"
	"encoding/binary"
	"fmt"
	"slices"
	"strings"
	"testing"

	"pawl/api"
	"pawl/journal"
)

// P26.3 of the head of this chapter, and P26.5 to P26.7.

func TestHeads(t *testing.T) {
	refused := func(b []byte) {
		t.Helper()
		if s, counts, e := checkOpen(t, "no head", b); s != nil || counts != 0 || e != api.ErrJournal {
			t.Errorf("%q: %d, %v", b, counts, e)
		}
	}
	for _, head := range []string{headText, elderText} {
		refused(nil)
		for n := 1; n < 8; n++ {
			refused([]byte(head[:n]))
			refused([]byte(head[n:]))
			refused([]byte(head[n:] + head[:n]))
		}
		opens(t, "the head alone", []byte(head), 8, "")
		for at := range 8 {
			for r := range 256 {
				b := append([]byte(head), elderRecord(put("a", "x"))...)
				b[at] = byte(r)
				if text := string(b[:8]); text != headText && text != elderText {
					refused(b)
				} else {
					checkOpen(t, "a head", b)
				}
			}
		}
	}
	refused([]byte(strings.ToLower(headText)))
	refused([]byte("\x00" + headText))
}

// journalOf is a journal of four batches, of one to three records, and where each ends.
func journalOf() (*told, []int) {
	w := newByWords()
	ends := []int{8}
	for _, l := range [][]api.Change{
		{put("a", "x"), put("b", "yy")},
		append(puts(17), gone("a")),
		{gone("b"), put("n0003", ""), put("a", "z")},
		append(puts(31), gone("n0030")),
	} {
		w.apply(l)
		ends = append(ends, len(w.journal))
	}
	return w, ends
}

// P26.6 and P26.7: cut off at each byte it tells what stood behind the last batch that is whole ahead of the cut.
func TestCutAtEachByte(t *testing.T) {
	w, ends := journalOf()
	var stood []string
	for _, n := range ends {
		s, _, _ := checkOpen(t, "at the end of a batch", w.journal[:n])
		stood = append(stood, entriesOf(s))
	}
	for n := 8; n <= len(w.journal); n++ {
		last := 0
		for i, end := range ends {
			if end <= n {
				last = i
			}
		}
		opens(t, fmt.Sprintf("cut at %d", n), w.journal[:n], ends[last], stood[last])
		// Whatever is put in the place of what was cut off plays no part.
		for _, other := range []string{"\x00", "\xff\xff\xff\xff\xff\xff\xff\xff\xff\x01", "\x80", headText} {
			if !bytes.HasPrefix(w.journal[n:], []byte(other)) {
				checkOpen(t, fmt.Sprintf("cut at %d, with more", n), append(slices.Clone(w.journal[:n]), other...))
			}
		}
	}
}

// Each byte turned to other values; put in and left out.
func TestSpoiledAtEachByte(t *testing.T) {
	w := newByWords()
	w.apply([]api.Change{put("a", "x"), put("b", "yy")})
	w.apply(append(puts(16), gone("b")))
	w.apply([]api.Change{gone("a"), put("b", "")})
	for at := 8; at < len(w.journal); at++ {
		for _, turn := range []byte{1, 2, 3, 4, 8, 16, 32, 64, 127, 128, 255} {
			b := slices.Clone(w.journal)
			b[at] ^= turn
			_, counts, e := checkOpen(t, fmt.Sprintf("byte %d turned by %d", at, turn), b)
			if e != api.OK || counts > at {
				t.Errorf("byte %d turned by %d, and %d count", at, turn, counts)
			}
		}
		for _, r := range []byte{0, 1, 0x80, 0xff} {
			checkOpen(t, fmt.Sprintf("%d put in at %d", r, at), slices.Insert(slices.Clone(w.journal), at, r))
		}
		checkOpen(t, fmt.Sprintf("without byte %d", at), slices.Delete(slices.Clone(w.journal), at, at+1))
	}
}

// Records that are left out, come twice, or in another order, and those of another journal, do not stand whole.
func TestRecordsElsewhere(t *testing.T) {
	w := newByWords()
	ends := []int{8}
	for i := range 5 {
		w.apply([]api.Change{put("a", fmt.Sprint(i))})
		ends = append(ends, len(w.journal))
	}
	record := func(i int) []byte { return w.journal[ends[i]:ends[i+1]] }
	for first := range 5 {
		for second := range 5 {
			b := slices.Concat([]byte(headText), record(first), record(second))
			switch {
			case first == 0 && second == 1:
				opens(t, "in their order", b, ends[2], "a=1")
			case first == 0:
				opens(t, "the first, and another one", b, ends[1], "a=0")
			default:
				opens(t, "not the first", b, 8, "")
			}
		}
	}
	other := newByWords()
	other.apply([]api.Change{put("b", "")})
	opens(t, "behind another record", append(slices.Clone(other.journal), record(1)...), len(other.journal), "b=")
	opens(t, "behind a head once more", append([]byte(headText), w.journal...), 8, "")
	opens(t, "the first behind all", append(slices.Clone(w.journal), record(0)...), len(w.journal), "a=4")
	opens(t, "a head behind all", append(slices.Clone(w.journal), headText...), len(w.journal), "a=4")
}

// laid is a journal of one batch, and behind it records with these bodies, whose links are right.
func laid(bodies ...[]byte) []byte {
	w := newByWords()
	w.apply([]api.Change{put("a", "x")})
	for _, body := range bodies {
		w.record(body)
	}
	return w.journal
}

const laidCounts = 8 + 35

// torn: a record with this body, whose link is right, does not stand whole behind the first one; nor does any that comes behind it.
func torn(t *testing.T, what string, body []byte) {
	t.Helper()
	good := bodyByWords(2, false, []api.Change{put("b", "")})
	for _, behind := range [][][]byte{{body}, {body, good}, {body, bodyByWords(3, false, []api.Change{put("b", "")})}} {
		opens(t, what, laid(behind...), laidCounts, "a=x")
	}
}

// whole: it does, and these are the entries behind it.
func whole(t *testing.T, what string, body []byte, entries string) {
	t.Helper()
	b := laid(body)
	opens(t, what, b, len(b), entries)
}

func TestBodiesThatAreNoMessage(t *testing.T) {
	good := bodyByWords(2, false, []api.Change{put("b", "yy"), gone("a")})
	whole(t, "good", good, "b=yy")
	torn(t, "no bytes", nil)
	for n := range len(good) {
		torn(t, fmt.Sprintf("%d bytes", n), good[:n])
	}
	for _, more := range []string{"\x00", "\x20\x00", "\x1a\x00", "\x80"} {
		torn(t, "more", append(slices.Clone(good), more...))
	}
	for at := range good {
		for r := range 256 {
			b := slices.Clone(good)
			if b[at] = byte(r); bytes.Equal(b, good) {
				continue
			}
			checkOpen(t, fmt.Sprintf("byte %d is %d", at, r), laid(b))
		}
	}
	torn(t, "a flag of two bytes", slices.Concat(good[:6], []byte{0x80, 0}, good[7:]))
	torn(t, "a flag 2", slices.Concat(good[:6], []byte{2}, good[7:]))
	torn(t, "without the flag", slices.Concat(good[:5], good[7:]))
	torn(t, "without the number", good[5:])
	torn(t, "a list's number of two bytes", slices.Concat(good[:8], []byte{good[8] | 0x80, 0}, good[9:]))
	torn(t, "fields in another order", slices.Concat(good[5:7], good[:5], good[7:]))
}

func TestNumbersOfRecords(t *testing.T) {
	l := []api.Change{put("b", "")}
	whole(t, "2", bodyByWords(2, false, l), "a=x b=")
	for _, n := range []uint32{0, 1, 3, 4, 258, 1<<31 + 2, 1<<32 - 1} {
		torn(t, fmt.Sprint(n), bodyByWords(n, false, l))
	}
	for n := range uint32(4) {
		w := newByWords()
		w.record(bodyByWords(n, false, l))
		if n == 1 {
			opens(t, "the first", w.journal, len(w.journal), "b=")
		} else {
			opens(t, "the first has another number", w.journal, 8, "")
		}
	}
}

// Of the link just the first 16 bytes stand there, and every bit of them answers.
func TestLinks(t *testing.T) {
	body := bodyByWords(2, false, []api.Change{put("b", "")})
	good := laid(body)
	opens(t, "good", good, len(good), "a=x b=")
	for i := range 128 {
		b := slices.Clone(good)
		b[len(b)-16+i/8] ^= 1 << (i % 8)
		opens(t, fmt.Sprintf("bit %d of the link", i), b, laidCounts, "a=x")
	}
	// The link of the body alone, and that behind the head.
	ahead := newByWords()
	for _, link := range [][32]byte{linkByWords([32]byte{}, body), linkByWords(ahead.link, body), {}} {
		opens(t, "another link", append(slices.Clone(good[:len(good)-16]), link[:16]...), laidCounts, "a=x")
	}
}

// The number of a body's bytes in all its forms, and numbers of bytes that are not there.
func TestNumbersOfBytes(t *testing.T) {
	w := newByWords()
	w.apply([]api.Change{put("a", "x")})
	b := w.journal
	opens(t, "good", b, len(b), "a=x")
	long := slices.Concat(b[:8], []byte{b[8] | 0x80, 0}, b[9:])
	opens(t, "in two bytes", long, 8, "")
	for _, n := range []uint64{0, 1, 17, 19, 34, 35, 127, 128, 1 << 20, 1 << 31, 1<<32 + 18, 1<<63 - 1, 1 << 63, 1<<63 + 18, 1<<64 - 1, 1<<64 - 35} {
		opens(t, fmt.Sprintf("%d bytes", n), slices.Concat(b[:8], binary.AppendUvarint(nil, n), b[9:]), 8, "")
	}
	for _, form := range []string{"\xff\xff\xff\xff\xff\xff\xff\xff\xff\x02", "\xff\xff\xff\xff\xff\xff\xff\xff\xff\xff\x01", "\x92\x80\x80\x00", "\x80\x00"} {
		opens(t, "no number", slices.Concat(b[:8], []byte(form), b[9:]), 8, "")
	}
}

// A record one of whose changes can't be does not stand whole, and none of its changes is made.
func TestChangesThatCantBe(t *testing.T) {
	long := strings.Repeat("d", mostData+1)
	for _, c := range []struct {
		what string
		c    api.Change
	}{
		{"no entry", gone("b")},
		{"an empty name", put("", "1")},
		{"a long name", put(strings.Repeat("n", 65), "1")},
		{"a space", put("a b", "1")},
		{"no ASCII", put("ä", "1")},
		{"127", put("\x7f", "1")},
		{"delete with data", api.Change{Name: "a", Delete: true, Data: []byte("1")}},
		{"long data", put("a", long)},
	} {
		torn(t, c.what, bodyByWords(2, false, []api.Change{c.c}))
		for i := range 15 {
			l := puts(15)
			l[i] = c.c
			torn(t, c.what, bodyByWords(2, false, l))
		}
		// Within a batch, all that is ahead of it in the batch is lost, too.
		b := laid(bodyByWords(2, true, puts(15)), bodyByWords(3, true, []api.Change{put("a", "y"), c.c}), bodyByWords(4, false, puts(1)))
		opens(t, c.what, b, laidCounts, "a=x")
	}
	torn(t, "gone twice", bodyByWords(2, false, []api.Change{gone("a"), gone("a")}))
	whole(t, "gone and there again", bodyByWords(2, false, []api.Change{gone("a"), put("a", "y")}), "a=y")
	whole(t, "the greatest", bodyByWords(2, false, []api.Change{put(strings.Repeat("n", 64), long[1:]), gone("a"), gone(strings.Repeat("n", 64))}), "")
	b := laid(bodyByWords(2, true, []api.Change{gone("a"), put("b", "1")}), bodyByWords(3, false, []api.Change{gone("a")}))
	opens(t, "gone in the record ahead", b, laidCounts, "a=x")
	b = laid(bodyByWords(2, true, []api.Change{gone("a"), put("b", "1")}), bodyByWords(3, false, []api.Change{put("a", "y"), gone("b")}))
	opens(t, "there in the record ahead", b, len(b), "a=y")
}

// Of a record there are 1 to 15 changes. Those of a batch may be fewer than Apply makes, in each of its records; and a batch may have more than Apply takes.
func TestRecordsOfOthers(t *testing.T) {
	torn(t, "no changes", bodyByWords(2, false, nil))
	torn(t, "sixteen", bodyByWords(2, false, puts(16)))
	torn(t, "forty", bodyByWords(2, false, puts(40)))
	whole(t, "fifteen", bodyByWords(2, false, append(puts(14), gone("a"))), "n0000=0 n0001=1 n0002=2 n0003=3 n0004=4 n0005=5 n0006=6 n0007=7 n0008=8 n0009=9 n0010=10 n0011=11 n0012=12 n0013=13")
	var bodies [][]byte
	for i := range 5000 {
		bodies = append(bodies, bodyByWords(uint32(i+2), i < 4999, []api.Change{put("b", fmt.Sprint(i)), gone("b"), put("c", fmt.Sprint(i))}))
	}
	b := laid(bodies...)
	opens(t, "15000 changes", b, len(b), "a=x c=4999")
	opens(t, "15000 changes, cut", b[:len(b)-1], laidCounts, "a=x")
	// Such a journal goes on as it is, and Compact writes it anew.
	s, _, _ := journal.Open(b)
	w, _, _ := openByWords(b)
	x := both{t, s, w}
	x.answers("more", api.OK, gone("c"), put("d", ""))
	x.compact()
}

// A batch whose last record is not there, or has its flag 1, is not there at all; behind one that is whole.
func TestBatchesWithoutTheirEnd(t *testing.T) {
	l := []api.Change{put("b", "1")}
	for n := 1; n < 6; n++ {
		var bodies [][]byte
		for i := range n {
			bodies = append(bodies, bodyByWords(uint32(i+2), true, l))
		}
		opens(t, "no end", laid(bodies...), laidCounts, "a=x")
		bodies = append(bodies, bodyByWords(uint32(n+2), false, l))
		b := laid(bodies...)
		opens(t, "an end", b, len(b), "a=x b=1")
		bodies = append(bodies, bodyByWords(uint32(n+3), true, puts(3)))
		opens(t, "an end, and one more", laid(bodies...), len(b), "a=x b=1")
	}
}

// P26.5: what Open answers is what the store itself is, from then on too, and so is what is opened of a cut.
func TestGoesOnAlike(t *testing.T) {
	w, _ := journalOf()
	for n := 8; n <= len(w.journal); n += 13 {
		s, counts, _ := journal.Open(w.journal[:n])
		stood, _, _ := openByWords(w.journal[:n])
		x := both{t, s, stood}
		d := newDrawer(int64(n), 30, "a", "b", "n0003", "zz")
		for range 4 {
			x.answers("a batch", api.OK, d.batch(x.w, 1+d.Intn(20))...)
			x.answers("none", api.ErrEntry, gone("nobody"))
			checkOpen(t, "behind it", x.s.Bytes())
		}
		if !bytes.HasPrefix(x.s.Bytes(), w.journal[:counts]) {
			t.Errorf("cut at %d: the journal begins anew", n)
		}
	}
}
