package journal_test

import (
	"fmt"
	"math/rand"
	"strings"
	"testing"

	"pawl/api"
	"pawl/journal"
)

// What several tests draw, and how they ask.

func put(name, data string) api.Change { return api.Change{Name: name, Data: []byte(data)} }

func gone(name string) api.Change { return api.Change{Name: name, Delete: true} }

// short is bytes as they are told where a test fails.
func short(b []byte) string {
	if len(b) > 200 {
		return fmt.Sprintf("%d bytes, %x .. %x", len(b), b[:100], b[len(b)-50:])
	}
	return fmt.Sprintf("%x", b)
}

// both is a store, and what it comes to by the words.
type both struct {
	t testing.TB
	s *journal.Store
	w *told
}

func newBoth(t testing.TB) *both { return &both{t, journal.New(), newByWords()} }

// apply does it to both, holds the answers against one another, and tells them.
func (x *both) apply(l ...api.Change) api.Errno {
	x.t.Helper()
	got, want := x.s.Apply(l), x.w.apply(l)
	if got != want {
		x.t.Fatalf("Apply of %d changes: %v, not %v", len(l), got, want)
	}
	checkStore(x.t, "Apply", x.s, x.w)
	return got
}

func (x *both) compact() api.Errno {
	x.t.Helper()
	got, want := x.s.Compact(), x.w.compact()
	if got != want {
		x.t.Fatalf("Compact: %v, not %v", got, want)
	}
	checkStore(x.t, "Compact", x.s, x.w)
	return got
}

// answers: the changes come to this.
func (x *both) answers(what string, want api.Errno, l ...api.Change) {
	x.t.Helper()
	if got := x.apply(l...); got != want {
		x.t.Errorf("%s: %v, not %v", what, got, want)
	}
}

// checkOpen holds Open against the words, and what it answers against its own bytes. It tells how many count, and why b is refused.
func checkOpen(t testing.TB, what string, b []byte) (*journal.Store, int, api.Errno) {
	t.Helper()
	s, counts, e := journal.Open(b)
	w, wantCounts, want := openByWords(b)
	if e != want || counts != wantCounts || (s == nil) != (w == nil) {
		t.Fatalf("%s: Open(%s): %d count, %v, not %d, %v", what, short(b), counts, e, wantCounts, want)
	}
	if w != nil {
		checkStore(t, what, s, w)
	}
	return s, counts, e
}

// opens: so many bytes of b count, and these entries are found ("a=x b=").
func opens(t testing.TB, what string, b []byte, counts int, entries string) {
	t.Helper()
	s, got, e := checkOpen(t, what, b)
	if e != api.OK || got != counts {
		t.Errorf("%s: %d count, %v, not %d", what, got, e, counts)
		return
	}
	if found := entriesOf(s); found != entries {
		t.Errorf("%s: %q, not %q", what, found, entries)
	}
}

func entriesOf(s *journal.Store) string {
	var all []string
	for _, name := range s.Names() {
		b, _ := s.Get(name)
		all = append(all, name+"="+string(b))
	}
	return strings.Join(all, " ")
}

// drawer draws changes of a few names, so that they meet one another.
type drawer struct {
	*rand.Rand
	names []string
	most  int // bytes of data
}

func newDrawer(seed int64, most int, names ...string) *drawer {
	return &drawer{rand.New(rand.NewSource(seed)), names, most}
}

func (d *drawer) data() string {
	b := make([]byte, d.Intn(d.most+1))
	d.Read(b)
	return string(b)
}

func (d *drawer) change() api.Change {
	name := d.names[d.Intn(len(d.names))]
	if d.Intn(3) == 0 {
		return gone(name)
	}
	return put(name, d.data())
}

// batch draws so many changes that can be behind these entries.
func (d *drawer) batch(w *told, n int) []api.Change {
	later := w.clone().entries
	var l []api.Change
	for len(l) < n {
		if c := d.change(); can(later, c) == api.OK {
			l = append(l, c)
		}
	}
	return l
}

// puts is so many puts of names of their own.
func puts(n int) []api.Change {
	var l []api.Change
	for i := range n {
		l = append(l, put(fmt.Sprintf("n%04d", i), fmt.Sprint(i)))
	}
	return l
}
