package journal_test

import (
	"bytes"
	"fmt"
	"math/rand"
	"testing"

	"pawl/api"
	"pawl/journal"
)

// P26.4, P26.8 and P26.9; Compact where there is no room is in full_test.go.

func TestCompact(t *testing.T) {
	x := newBoth(t)
	x.compact()
	x.answers("b", api.OK, put("b", "1"))
	x.answers("a, b", api.OK, put("a", "2"), put("b", "3"))
	x.answers("c", api.OK, put("c", "4"))
	x.answers("c gone", api.OK, gone("c"))
	x.compact()
	fresh := newBoth(t)
	fresh.answers("all", api.OK, put("a", "2"), put("b", "3"))
	if !bytes.Equal(x.s.Bytes(), fresh.s.Bytes()) || x.s.Head() != fresh.s.Head() {
		t.Errorf("%x, not %x", x.s.Bytes(), fresh.s.Bytes())
	}
	x.compact()
	x.answers("it goes on", api.OK, put("d", ""), gone("a"))
	x.answers("none", api.ErrEntry, gone("a"))
	x.answers("all gone", api.OK, gone("b"), gone("d"))
	x.compact()
	if string(x.s.Bytes()) != headText {
		t.Errorf("%x", x.s.Bytes())
	}
	x.answers("from the head on", api.OK, put("d", ""))
	checkOpen(t, "from the head on", x.s.Bytes())
}

// Of each number of entries as many records as they fill, put by their names, whatever the order in which they came.
func TestCompactOfAllSizes(t *testing.T) {
	r := rand.New(rand.NewSource(2601))
	for n := range 50 {
		x := newBoth(t)
		l := puts(n)
		r.Shuffle(n, func(i, j int) { l[i], l[j] = l[j], l[i] })
		for i, c := range l {
			if i%3 == 0 {
				x.answers("another one first", api.OK, put(c.Name, "elder"), put("z", ""))
			}
			x.answers("put", api.OK, c)
		}
		if n > 0 {
			x.answers("z gone", api.OK, gone("z"))
		}
		x.compact()
		if want := (n + 14) / 15; x.w.records != want {
			t.Errorf("%d entries: %d records", n, x.w.records)
		}
		fresh := newBoth(t)
		fresh.answers("at once", api.OK, puts(n)...)
		if !bytes.Equal(x.s.Bytes(), fresh.s.Bytes()) || x.s.Head() != fresh.s.Head() {
			t.Errorf("%d entries: %x, not %x", n, x.s.Bytes(), fresh.s.Bytes())
		}
	}
}

// More entries than one Apply takes are one batch all the same.
func TestCompactOfMoreThanABatch(t *testing.T) {
	x := newBoth(t)
	all := puts(9000)
	for from := 0; from < len(all); from += 3000 {
		x.answers("a part", api.OK, all[from:from+3000]...)
	}
	x.compact()
	if x.w.records != 600 {
		t.Errorf("%d records", x.w.records)
	}
	b := x.s.Bytes()
	if _, counts, _ := checkOpen(t, "whole", b); counts != len(b) {
		t.Errorf("%d of %d count", counts, len(b))
	}
	opens(t, "cut", b[:len(b)-1], 8, "")
}

// P26.8: two stores come to the same entries on ways of their own.
func TestCompactIsOfTheEntriesAlone(t *testing.T) {
	for seed := range int64(80) {
		d := newDrawer(2700+seed, 150, "a", "b", "c", "dd", "~")
		one, other := newBoth(t), newBoth(t)
		for range 1 + d.Intn(8) {
			one.answers("one", api.OK, d.batch(one.w, 1+d.Intn(25))...)
		}
		for range d.Intn(4) {
			other.answers("other", api.OK, d.batch(other.w, 1+d.Intn(25))...)
			if d.Intn(2) == 0 {
				other.compact()
			}
		}
		// The other one is brought to the entries of the one, in an order that is drawn.
		for _, i := range d.Perm(len(d.names)) {
			name := d.names[i]
			data, is := one.s.Get(name)
			if _, there := other.s.Get(name); is {
				other.answers("put", api.OK, put(name, string(data)))
			} else if there {
				other.answers("gone", api.OK, gone(name))
			}
		}
		was := entriesOf(one.s)
		one.compact()
		other.compact()
		if entriesOf(one.s) != was || entriesOf(other.s) != was {
			t.Errorf("%q, %q, not %q", entriesOf(one.s), entriesOf(other.s), was)
		}
		if !bytes.Equal(one.s.Bytes(), other.s.Bytes()) || one.s.Head() != other.s.Head() {
			t.Errorf("%x, not %x", one.s.Bytes(), other.s.Bytes())
		}
		whole, counts, e := journal.Open(one.s.Bytes())
		if e != api.OK || counts != len(one.s.Bytes()) || entriesOf(whole) != was {
			t.Errorf("opened: %d count, %v", counts, e)
		}
	}
}

// P26.9: journals that count whole, all unlike, have heads that are all unlike; like ones like ones.
func TestHeadsTellTheRecords(t *testing.T) {
	journals := map[api.Key]string{}
	held := func(s *journal.Store) {
		t.Helper()
		b := string(s.Bytes())
		if was, is := journals[s.Head()]; is && was != b {
			t.Errorf("%x and %x have one head", was, b)
		}
		journals[s.Head()] = b
		if again, counts, e := journal.Open([]byte(b)); e != api.OK || counts != len(b) || again.Head() != s.Head() {
			t.Errorf("opened: %d of %d count, %v", counts, len(b), e)
		}
	}
	held(journal.New())
	changes := []api.Change{put("a", ""), put("a", "\x00"), put("b", ""), gone("a"), gone("b")}
	for _, first := range changes {
		for _, second := range changes {
			for _, cut := range []bool{false, true} {
				s := journal.New()
				if cut {
					s.Apply([]api.Change{first})
					s.Apply([]api.Change{second})
				} else {
					s.Apply([]api.Change{first, second})
				}
				held(s)
				s.Compact()
				held(s)
			}
		}
	}
	// The same records, cut in two batches by the flag alone.
	for n := range 8 {
		w := newByWords()
		for i := range 3 {
			w.record(bodyByWords(uint32(i+1), n>>i&1 == 1 && i < 2, []api.Change{put(fmt.Sprint(i), "")}))
		}
		s, _, _ := checkOpen(t, "flags", w.journal)
		held(s)
	}
	texts := map[string]int{}
	for _, b := range journals {
		texts[b]++
	}
	if len(texts) != len(journals) || len(texts) < 20 {
		t.Errorf("%d journals, %d heads", len(texts), len(journals))
	}
}
