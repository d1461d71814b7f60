package journal_test

import (
	"fmt"
	"strings"
	"testing"

	"pawl/api"
	"pawl/journal"
)

// ErrFull and ErrLong of Open: at the bound, and one byte beyond.

// great is puts of entries that fill so many bytes of journal in all, with its head; the last one is put with what is missing.
func great(t *testing.T, first []api.Change, want int) []api.Change {
	t.Helper()
	data := make([]byte, mostData)
	l := first
	for {
		c := api.Change{Name: fmt.Sprintf("g%03d", len(l)), Data: data}
		more := append(l[:len(l):len(l)], c)
		over := len(headText) + sizeByWords(more) - want
		if over < 0 {
			l = more
			continue
		}
		more[len(l)].Data = data[:mostData-over] // over is so small that no number of bytes becomes shorter
		if len(headText)+sizeByWords(more) != want {
			t.Fatalf("%d bytes, not %d", len(headText)+sizeByWords(more), want)
		}
		return more
	}
}

// Of a journal with exactly as many bytes as there may be, and of one byte fewer: what still finds room.
func TestFull(t *testing.T) {
	x := newBoth(t)
	x.answers("all", api.OK, great(t, nil, mostJournal-35)...)
	const last = 35 // a record with one change of a name of one byte and a byte of data
	if n := sizeByWords([]api.Change{put("a", "x")}); n != last {
		t.Fatal(n)
	}
	full := func(what string, want api.Errno, l ...api.Change) {
		t.Helper()
		was := x.s.Head()
		if e := x.s.Apply(l); e != want || x.s.Head() != was {
			t.Errorf("%s: %v, not %v", what, e, want)
		}
	}
	full("one byte too many", api.ErrFull, put("a", "xx"))
	full("many bytes too many", api.ErrFull, put("a", strings.Repeat("d", mostData)))
	full("two records", api.ErrFull, puts(16)...)
	full("a long name", api.ErrFull, put("aa", "x"))
	full("a wrong name, and no room", api.ErrEntry, put("a", "xx"), put("a b", strings.Repeat("d", mostData)))
	full("long data, and no room", api.ErrLong, put("a", "xx"), put("a", strings.Repeat("d", mostData+1)))
	full("a delete with data, and no room", api.ErrArg, put("a", "xx"), api.Change{Name: "a", Delete: true, Data: []byte("d")})
	full("a delete of no entry, and no room", api.ErrEntry, put("a", "xx"), gone("b"))
	full("too many, and no room", api.ErrLong, puts(4097)...)
	full("none", api.OK)
	x.answers("to the last byte", api.OK, put("a", "x"))
	if n := len(x.s.Bytes()); n != mostJournal {
		t.Errorf("%d bytes", n)
	}
	full("nothing more", api.ErrFull, put("a", ""))
	full("not even a delete", api.ErrFull, gone("a"))
	full("none", api.OK)
	b := x.s.Bytes()
	if s, counts, e := journal.Open(b); e != api.OK || counts != mostJournal || s.Head() != x.s.Head() || len(s.Names()) != len(x.s.Names()) {
		t.Errorf("Open: %d count, %v", counts, e)
	} else if e := s.Apply([]api.Change{gone("a")}); e != api.ErrFull {
		t.Errorf("Apply behind Open: %v", e)
	}
	for _, more := range []string{"x", headText} {
		if s, counts, e := journal.Open(append(b, more...)); s != nil || counts != 0 || e != api.ErrLong {
			t.Errorf("Open of %d bytes: %d count, %v", len(b)+len(more), counts, e)
		}
	}
	if _, _, e := journal.Open(make([]byte, mostJournal+1)); e != api.ErrLong {
		t.Errorf("Open of zeros, one too many: %v", e)
	}
	if _, _, e := journal.Open(make([]byte, mostJournal)); e != api.ErrJournal {
		t.Errorf("Open of zeros: %v", e)
	}
}

// As many changes as there may be, of as many bytes as there may be, find no room at once.
func TestFullAtOnce(t *testing.T) {
	x := newBoth(t)
	data := make([]byte, mostData)
	var l []api.Change
	for i := range mostBatch {
		l = append(l, api.Change{Name: fmt.Sprint("n", i), Data: data})
	}
	x.answers("all", api.ErrFull, l...)
	x.answers("some", api.OK, l[:3]...)
}

// What the entries need may be more than the journal that they stand in, since it puts them in another order: short ones among long ones have one number of bytes more.
func TestCompactWithoutRoom(t *testing.T) {
	for _, over := range []int{0, 1} {
		small := []api.Change{}
		for i := range 15 {
			small = append(small, put(fmt.Sprintf("g%03d%c", i*15, 'a'), ""))
		}
		x := newBoth(t)
		l := great(t, small, mostJournal-100)
		var w told
		w.entries = map[string]string{}
		for _, c := range l {
			w.entries[c.Name] = string(c.Data)
		}
		needs := len(headText) + sizeByWords(w.puts())
		if needs <= mostJournal-100 || needs >= mostJournal {
			t.Fatalf("%d bytes are needed", needs)
		}
		// The last one grows, so that the entries need just as many bytes as there may be, or one more.
		end := &l[len(l)-1]
		end.Data = make([]byte, len(end.Data)+mostJournal-needs+over)
		x.answers("all", api.OK, l...)
		want := api.OK
		if over > 0 {
			want = api.ErrFull
		}
		if e := x.compact(); e != want {
			t.Errorf("%d bytes more: %v, not %v", over, e, want)
		}
		if n := len(x.s.Bytes()); want == api.OK && n != mostJournal || want != api.OK && n >= mostJournal {
			t.Errorf("%d bytes more: %d bytes", over, n)
		}
	}
}

// A journal of the elder format whose entries need just as many bytes as there may be, or one more.
func TestElderWithoutRoom(t *testing.T) {
	for _, over := range []int{0, 1} {
		l := great(t, nil, mostJournal)
		end := &l[len(l)-1]
		end.Data = make([]byte, len(end.Data)+over)
		b := elderOf(l...)
		if len(b) >= mostJournal {
			t.Fatalf("%d bytes", len(b))
		}
		s, counts, e := checkOpen(t, "elder", b)
		if over == 0 && (e != api.OK || counts != len(b) || len(s.Bytes()) != mostJournal) {
			t.Errorf("%d count, %v", counts, e)
		}
		if over == 1 && (s != nil || counts != 0 || e != api.ErrFull) {
			t.Errorf("one byte more: %d count, %v", counts, e)
		}
	}
}
