package journal_test

import (
	"fmt"
	"slices"
	"strings"
	"testing"

	"pawl/api"
	"pawl/journal"
)

// P26.1 and P26.2; the bound of a journal's bytes is in full_test.go.

func TestNew(t *testing.T) {
	checkStore(t, "New", journal.New(), newByWords())
	checkStore(t, "the zero Store", &journal.Store{}, newByWords())
	x := both{t, &journal.Store{}, newByWords()}
	x.answers("no entry", api.ErrEntry, gone("a"))
	x.compact()
	x.answers("the zero Store goes on as New's", api.OK, put("a", "x"), put("b", ""))
	x.compact()
}

// Each byte as a name, and in one; every length.
func TestNames(t *testing.T) {
	x := newBoth(t)
	for r := range 256 {
		for _, name := range []string{string([]byte{byte(r)}), "ab" + string([]byte{byte(r)}), string([]byte{byte(r)}) + "ab"} {
			want := api.ErrEntry
			if r >= 33 && r <= 126 {
				want = api.OK
			}
			x.answers(fmt.Sprintf("put %q", name), want, put(name, "1"))
			x.answers(fmt.Sprintf("delete %q", name), want, gone(name))
		}
	}
	for n := range 200 {
		want := api.ErrEntry
		if n >= 1 && n <= 64 {
			want = api.OK
		}
		x.answers(fmt.Sprintf("%d bytes", n), want, put(strings.Repeat("~", n), "2"))
	}
	if len(x.s.Names()) != 64 {
		t.Errorf("%d names", len(x.s.Names()))
	}
	for _, name := range []string{"ä", "a\u00a0", "\U0001f600", "a\n", "\ta", "a b"} {
		x.answers(fmt.Sprintf("%q", name), api.ErrEntry, put(name, "1"))
	}
}

// Names rise byte by byte: great letters ahead of small ones, a name ahead of those that begin with it.
func TestNamesRise(t *testing.T) {
	x := newBoth(t)
	names := []string{"b", "a", "B", "aa", "!", "~", "a!", "10", "9", "Z", "a~", "ab", "A"}
	for i, name := range names {
		x.answers(name, api.OK, put(name, fmt.Sprint(i)))
	}
	want := []string{"!", "10", "9", "A", "B", "Z", "a", "a!", "aa", "ab", "a~", "b", "~"}
	if got := x.s.Names(); !slices.Equal(got, want) {
		t.Errorf("%q, not %q", got, want)
	}
	x.answers("gone", api.OK, gone("a"), gone("~"), gone("!"))
}

// Names are taken as they are: none is another one in other letters, none is cut.
func TestNamesAreThemselves(t *testing.T) {
	x := newBoth(t)
	x.answers("put", api.OK, put("name", "1"))
	for _, name := range []string{"Name", "nam", "name!", "name0", "ame"} {
		x.answers(name, api.ErrEntry, gone(name))
		if b, is := x.s.Get(name); is || len(b) > 0 {
			t.Errorf("Get(%q): %q, %v", name, b, is)
		}
	}
}

// Data of each length about those at which a number of bytes has one byte more.
func TestDataOfAllLengths(t *testing.T) {
	x := newBoth(t)
	for _, n := range []int{0, 1, 2, 100, 105, 106, 107, 108, 109, 110, 111, 112, 113, 114, 115, 116, 117, 118, 119, 120, 121, 122, 123, 124, 125, 126, 127, 128, 129, 255, 256, 16350, 16370, 16380, 16381, 16382, 16383, 16384, 16385, 65536, 262143, 262144} {
		x.answers(fmt.Sprintf("%d bytes", n), api.OK, put("a", strings.Repeat("d", n)))
		checkOpen(t, fmt.Sprintf("%d bytes", n), x.s.Bytes())
	}
	x.answers("one too many", api.ErrLong, put("a", strings.Repeat("d", 262145)))
	x.answers("many too many", api.ErrLong, put("b", strings.Repeat("d", 1<<20)))
	x.answers("one too many, in the end", api.ErrLong, put("b", ""), put("a", strings.Repeat("d", 262145)))
}

// All bytes are kept as they are.
func TestDataOfAllBytes(t *testing.T) {
	x := newBoth(t)
	var all []byte
	for r := range 256 {
		all = append(all, byte(r))
	}
	x.answers("all bytes", api.OK, put("a", string(all)), put("b", "PAWLJRN2"), put("c", "\xff\xfe\x00"))
}

// What a change can be wrong in, in the order in which it is asked.
func TestFirstErrorOfAChange(t *testing.T) {
	long, more := strings.Repeat("d", 262145), strings.Repeat("n", 65)
	for _, c := range []struct {
		what string
		c    api.Change
		want api.Errno
	}{
		{"a put", put("a", "1"), api.OK},
		{"a put of no bytes", put("new", ""), api.OK},
		{"a delete", gone("a"), api.OK},
		{"no name", put("", "1"), api.ErrEntry},
		{"a long name", put(more, "1"), api.ErrEntry},
		{"long data", put("a", long), api.ErrLong},
		{"a delete with data", api.Change{Name: "a", Delete: true, Data: []byte{0}}, api.ErrArg},
		{"a delete of no entry", gone("b"), api.ErrEntry},
		{"no name, long data", put("", long), api.ErrEntry},
		{"a long name, long data", put(more, long), api.ErrEntry},
		{"no name, delete with data", api.Change{Delete: true, Data: []byte("1")}, api.ErrEntry},
		{"no name, delete with long data", api.Change{Name: "\x7f", Delete: true, Data: []byte(long)}, api.ErrEntry},
		{"delete with long data", api.Change{Name: "a", Delete: true, Data: []byte(long)}, api.ErrLong},
		{"delete with long data of no entry", api.Change{Name: "b", Delete: true, Data: []byte(long)}, api.ErrLong},
		{"delete with data of no entry", api.Change{Name: "b", Delete: true, Data: []byte("1")}, api.ErrArg},
		{"delete with an empty list", api.Change{Name: "a", Delete: true, Data: []byte{}}, api.OK},
	} {
		x := newBoth(t)
		x.answers("a", api.OK, put("a", "0"))
		x.answers(c.what, c.want, c.c)
		x = newBoth(t)
		x.answers("a", api.OK, put("a", "0"))
		x.answers(c.what+", in the end", c.want, put("c", ""), gone("c"), c.c)
	}
}

// Of several wrong changes the first decides, wherever it stands, and nothing is changed.
func TestFirstWrongChangeDecides(t *testing.T) {
	wrong := []struct {
		c    api.Change
		want api.Errno
	}{
		{put("a b", ""), api.ErrEntry},
		{put("a", strings.Repeat("d", 262145)), api.ErrLong},
		{api.Change{Name: "old", Delete: true, Data: []byte("1")}, api.ErrArg},
		{gone("nobody"), api.ErrEntry},
	}
	x := newBoth(t)
	x.answers("old", api.OK, put("old", "0"), put("n0003", "0"))
	for n := range 35 {
		for i := range n {
			for _, w := range wrong {
				l := puts(n)
				l[i] = w.c
				x.answers("one wrong", w.want, l...)
				for j := i + 1; j < n && n < 8; j++ {
					for _, v := range wrong {
						l := puts(n)
						l[i], l[j] = w.c, v.c
						x.answers("two wrong", w.want, l...)
					}
				}
			}
		}
	}
	if got := entriesOf(x.s); got != "n0003=0 old=0" {
		t.Error(got)
	}
}

// A change can be behind those ahead of it in the batch, in one record and over several.
func TestChangesBehindOneAnother(t *testing.T) {
	x := newBoth(t)
	x.answers("put and gone", api.OK, put("a", "1"), gone("a"))
	x.answers("it is gone", api.ErrEntry, gone("a"))
	x.answers("put, gone, put", api.OK, put("a", "1"), gone("a"), put("a", "2"))
	x.answers("put thrice", api.OK, put("a", "3"), put("a", ""), put("a", "4"))
	x.answers("gone, gone", api.ErrEntry, gone("a"), gone("a"))
	x.answers("gone, put, gone, gone", api.ErrEntry, gone("a"), put("a", ""), gone("a"), gone("a"))
	x.answers("gone, put, gone", api.OK, gone("a"), put("a", ""), gone("a"))
	for n := range 40 {
		l := append(puts(n), put("a", "5"))
		for i := range n {
			l = append(l, gone(fmt.Sprintf("n%04d", i)))
		}
		x.answers("all gone again", api.OK, l...)
		x.answers("one gone twice", api.ErrEntry, append(l, gone("n0000"))...)
	}
	if got := entriesOf(x.s); got != "a=5" {
		t.Error(got)
	}
}

// As many changes as fill records, one fewer and one more; of no changes no record.
func TestBatchesOfAllSizes(t *testing.T) {
	x := newBoth(t)
	for n := range 65 {
		was := x.w.records
		x.answers(fmt.Sprintf("%d changes", n), api.OK, puts(n)...)
		if got, want := x.w.records-was, (n+14)/15; got != want {
			t.Errorf("%d changes: %d records, not %d", n, got, want)
		}
	}
	checkOpen(t, "all", x.s.Bytes())
	for _, n := range []int{4094, 4095, 4096} {
		x := newBoth(t)
		x.answers(fmt.Sprintf("%d changes", n), api.OK, puts(n)...)
		checkOpen(t, "all", x.s.Bytes())
		x.answers("4097", api.ErrLong, puts(4097)...)
		x.answers("4097, the first wrong", api.ErrLong, make([]api.Change, 4097)...)
		x.answers("4096, all wrong", api.ErrEntry, make([]api.Change, 4096)...)
		x.answers("5000", api.ErrLong, puts(5000)...)
	}
	x.answers("none", api.OK)
	if e := x.s.Apply([]api.Change{}); e != api.OK {
		t.Error(e)
	}
	checkStore(t, "none", x.s, x.w)
}

// Of a journal of many records the numbers take more than one byte.
func TestManyRecords(t *testing.T) {
	x := newBoth(t)
	for i := range 600 {
		name := fmt.Sprint("n", i%7)
		if e := x.s.Apply([]api.Change{put(name, fmt.Sprint(i))}); e != api.OK {
			t.Fatal(e)
		}
		if e := x.w.apply([]api.Change{put(name, fmt.Sprint(i))}); e != api.OK {
			t.Fatal(e)
		}
	}
	checkStore(t, "600 records", x.s, x.w)
	if x.w.records != 600 {
		t.Error(x.w.records)
	}
	opens(t, "600 records", x.s.Bytes(), len(x.w.journal), "n0=595 n1=596 n2=597 n3=598 n4=599 n5=593 n6=594")
}
