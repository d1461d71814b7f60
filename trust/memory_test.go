package trust_test

import (
	"bytes"
	"slices"
	"sync"
	"testing"

	"pawl/api"
	"pawl/trust"
)

// What is handed in is neither changed nor kept, and what is given is new memory, room too; a refusal changes nothing; two books know nothing of one another.

// spoil overwrites a list, room too.
func spoil[T any](l []T, with T) {
	l = l[:cap(l)]
	for i := range l {
		l[i] = with
	}
}

var (
	spoiltEvent   = api.Event{Kind: 3, Name: "spoilt", Key: api.Key{0xa5}}
	spoiltContact = api.Contact{Name: "spoilt", Key: api.Key{0xa5}, State: 9}
)

// someBook is a book of several contacts.
func someBook(t *testing.T) *both {
	t.Helper()
	s := newBoth(t, own)
	for i, name := range []string{"dan", "ann", "eve", "bob", "cid"} {
		s.do(see(name, api.Key{byte(i)}))
	}
	s.do(see("ann", z))
	s.do(see("bob", y))
	s.do(accept("bob"))
	s.do(block("eve"))
	s.do(forget("dan"))
	s.check("some book")
	return s
}

func TestNothingIsChanged(t *testing.T) {
	events := someBook(t).w.events
	for n := range len(events) + 1 {
		whole := slices.Concat([]api.Event{spoiltEvent}, events[:n], slices.Repeat([]api.Event{spoiltEvent}, 20))
		was := slices.Clone(whole)
		handed := whole[1 : 1+n]
		s := bothOf(t, own, handed)
		w := &told{own, slices.Clone(events[:n])}
		s.w = w
		s.do(see("fay", x))
		s.do(see("gus", x))
		s.do(block("fay"))
		if !slices.Equal(whole, was) {
			t.Fatalf("of %d: what was handed to Replay has changed", n)
		}
		spoil(whole, spoiltEvent)
		s.check("behind spoiling")
	}
	whole := slices.Concat(someBook(t).w.export(), bytes.Repeat([]byte{0xa5}, 50))
	was := slices.Clone(whole)
	b, err := trust.Import(whole[: len(whole)-50 : len(whole)])
	if err != nil || !bytes.Equal(whole, was) {
		t.Fatalf("Import: %v", err)
	}
	spoil(whole, 0xa5)
	checkBook(t, "Import", b, someBook(t).w)
	for _, wrong := range [][]byte{was, was[:len(was)-60]} {
		whole := slices.Clone(wrong)
		if _, err := trust.Import(whole); err == nil || !bytes.Equal(whole, wrong) {
			t.Errorf("Import: %v", err)
		}
	}
}

func TestNothingIsShared(t *testing.T) {
	s := someBook(t)
	for round := range 3 {
		events, contacts, export := s.b.Events(), s.b.Contacts(), s.b.Export()
		more, others, again := s.b.Events(), s.b.Contacts(), s.b.Export()
		spoil(events, spoiltEvent)
		spoil(contacts, spoiltContact)
		spoil(export, 0xa5)
		s.check("behind spoiling")
		if !slices.Equal(more, s.w.events) || !slices.Equal(others, s.w.contacts()) || !bytes.Equal(again, s.w.export()) {
			t.Fatal("two answers share memory")
		}
		was, stood := slices.Clone(more[:cap(more)]), slices.Clone(others[:cap(others)])
		for _, c := range []call{see("ann", api.Key{40, byte(round)}), see("aaa", x), block("bob"), unblock("bob"), forget("cid"), see("cid", y)} {
			s.do(c)
		}
		if !slices.Equal(more[:cap(more)], was) || !slices.Equal(others[:cap(others)], stood) {
			t.Fatal("an answer changes with the book")
		}
		spoil(more, spoiltEvent)
		spoil(others, spoiltContact)
		s.check("behind calls and spoiling")
	}
}

// Each error is a new one: a fault that somebody writes to is no other call's.
func TestFaultsAreNew(t *testing.T) {
	wrong := (&told{own, []api.Event{{Kind: 3, Name: "ann", Key: x}}}).export()
	for _, b := range [][]byte{wrong, nil, wrong[:20]} {
		_, one := trust.Import(b)
		_, two := trust.Import(b)
		f, g := one.(*api.Fault), two.(*api.Fault)
		if f == g || *f != *g {
			t.Fatalf("%v, %v", f, g)
		}
		*f = api.Fault{Line: 7, At: 7, Why: 7}
		checkImport(t, b)
	}
}

// A call that answers an error and makes no event changes nothing (but See of another key, which makes one).
func TestRefusalsChangeNothing(t *testing.T) {
	for _, l := range behind() {
		s := bothOf(t, own, l)
		before := s.b.Export()
		for _, key := range []api.Key{zero, x, y, z} {
			for _, c := range everyCall("ann", own, key) {
				b, _ := trust.Replay(own, l)
				if e := c.on(b); e != api.OK && !(c.what == "See" && e == api.ErrChanged) && !bytes.Equal(b.Export(), before) {
					t.Fatalf("%v: %v, and it has changed", c, e)
				}
			}
		}
	}
}

func TestTwoBooks(t *testing.T) {
	s := someBook(t)
	one, _ := trust.Replay(own, s.b.Events())
	two, _ := trust.Replay(own, s.b.Events())
	one.See("zoe", x)
	two.See("abe", y)
	two.Forget("ann")
	a, b := &told{own, slices.Clone(s.w.events)}, &told{own, slices.Clone(s.w.events)}
	see("zoe", x).byWords(a)
	see("abe", y).byWords(b)
	forget("ann").byWords(b)
	checkBook(t, "one", one, a)
	checkBook(t, "two", two, b)
	s.check("the first")
	checkBook(t, "new", trust.New(own), &told{own: own})
}

// TestAtOnce: books of several goroutines go each its own way.
func TestAtOnce(t *testing.T) {
	events := someBook(t).b.Events()
	bytesOf := someBook(t).b.Export()
	var all sync.WaitGroup
	for i := range 8 {
		all.Go(func() {
			b, e := trust.Replay(own, events)
			c, err := trust.Import(bytesOf)
			if e != api.OK || err != nil {
				t.Errorf("%v, %v", e, err)
				return
			}
			w := &told{own, slices.Clone(events)}
			d := newDrawer(int64(2270+i), own, people(4), zero, x, y, z)
			for range 100 {
				one := d.call()
				want := one.byWords(w)
				if one.on(b) != want || one.on(c) != want {
					t.Errorf("number %d: another answer", i)
				}
			}
			if !bytes.Equal(b.Export(), w.export()) || !bytes.Equal(c.Export(), w.export()) {
				t.Errorf("number %d: another book", i)
			}
		})
	}
	all.Wait()
}
