package journal_test

import (
	"slices"
	"testing"

	"pawl/api"
	"pawl/journal"
)

// Drawn runs: batches that can be and such as can't, Compact, the journal laid down, cut off and read again; all held against the words, P26.5 to P26.7 with them.

func TestRuns(t *testing.T) {
	answers := map[api.Errno]int{}
	for seed := range int64(120) {
		d := newDrawer(2800+seed, []int{3, 40, 300}[seed%3], "a", "b", "c", "name", "n~!", "zz")
		x := newBoth(t)
		stood := []map[string]string{x.w.clone().entries} // behind each call since the journal began
		for range 40 {
			switch d.Intn(10) {
			case 0:
				x.compact()
				stood = []map[string]string{{}, x.w.clone().entries} // and the head alone, of which what is needed is one batch
			case 1:
				b := x.s.Bytes()
				cut := b[:8+d.Intn(len(b)-7)]
				s, _, _ := checkOpen(t, "cut", cut)
				if !slices.ContainsFunc(stood, func(m map[string]string) bool { return same(s, m) }) {
					t.Fatalf("seed %d: the entries %q never were", seed, entriesOf(s))
				}
			case 2:
				b := x.s.Bytes()
				s, counts, e := checkOpen(t, "whole", b)
				if e != api.OK || counts != len(b) {
					t.Fatalf("seed %d: %d of %d count, %v", seed, counts, len(b), e)
				}
				x.s = s // it goes on with what was read
			case 3:
				b := x.s.Bytes()
				b[d.Intn(len(b))] ^= 1 << d.Intn(8)
				checkOpen(t, "spoiled", b)
			case 4, 5:
				var l []api.Change
				for range d.Intn(20) {
					l = append(l, d.odd())
				}
				answers[x.apply(l...)]++
			default:
				answers[x.apply(d.batch(x.w, d.Intn(33))...)]++
			}
			stood = append(stood, x.w.clone().entries)
		}
	}
	for _, e := range []api.Errno{api.OK, api.ErrEntry, api.ErrArg} {
		if answers[e] < 50 {
			t.Errorf("%v came %d times", e, answers[e])
		}
	}
}

// odd draws a change that often can't be.
func (d *drawer) odd() api.Change {
	c := d.change()
	switch d.Intn(25) {
	case 0:
		c.Name += " "
	case 1:
		c.Name = ""
	case 2:
		c.Delete = true
	}
	return c
}

func same(s *journal.Store, entries map[string]string) bool {
	names := s.Names()
	for _, name := range names {
		b, _ := s.Get(name)
		if text, is := entries[name]; !is || text != string(b) {
			return false
		}
	}
	return len(names) == len(entries)
}
