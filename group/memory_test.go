package group_test

import (
	"bytes"
	"slices"
	"sync"
	"testing"

	"pawl/api"
	"pawl/group"
)

// What is handed in is neither changed nor kept, and what is given is new memory, room too; two groups know nothing of one another.

// fill overwrites a list, room too.
func fill(b []byte) {
	b = b[:cap(b)]
	for i := range b {
		b[i] ^= 0xa5
	}
}

// handed is a list as it is handed in, with room behind it, and all that it stands in.
type handed struct{ list, whole, was []byte }

func hand(b []byte) handed {
	whole := slices.Concat(b, bytes.Repeat([]byte{0x11}, 200))
	return handed{whole[:len(b)], whole, slices.Clone(whole)}
}

// spoil holds that lists are as they were handed in, and then overwrites them.
func spoil(t *testing.T, l ...handed) {
	t.Helper()
	for i, h := range l {
		if !bytes.Equal(h.whole, h.was) {
			t.Fatalf("the list %d that was handed in has changed", i)
		}
		fill(h.whole)
	}
}

func TestMemoryOfWhatIsHandedIn(t *testing.T) {
	seed := hand(seedOf(1))
	g, e := group.New(here, "ann", seed.list, good)
	must(t, "New", e)
	s := &seat{t: t, g: g, w: speak("ann", 1)}
	spoil(t, seed)
	s.stands("behind a change of what was handed in")
	bob := speak("bob", 2)
	card := hand(bob.card())
	s.learns(card.list)
	spoil(t, card)
	s.stands("behind a change of what was handed in")
	l := bob.saysAll(3)
	for _, n := range []int{2, 0, 1} {
		m, extra := hand(l[n]), hand(x)
		got, err := s.receive(m.list, extra.list)
		if err != nil {
			t.Fatal(err)
		}
		spoil(t, m, extra)
		if string(got.Plain) != string(rune('0'+n)) {
			t.Fatal("an answer changes with what was handed in")
		}
		s.stands("behind a change of what was handed in")
	}
	plain, extra := hand([]byte("something")), hand(x)
	b, err := s.send(plain.list, extra.list)
	if err != nil {
		t.Fatal(err)
	}
	was := slices.Clone(b)
	spoil(t, plain, extra)
	if !bytes.Equal(b, was) {
		t.Fatal("an answer changes with what was handed in")
	}
	seed = hand(seedOf(3))
	must(t, "Renew", s.renew(seed.list))
	spoil(t, seed)
	s.stands("behind a change of what was handed in")
	seed = hand(seedOf(4))
	must(t, "Remove", s.remove("bob", seed.list))
	spoil(t, seed)
	s.stands("behind a change of what was handed in")
	down := hand(peopleOf("ann", "bob").export())
	g, err = group.Import(down.list)
	if err != nil {
		t.Fatal(err)
	}
	spoil(t, down)
	(&seat{t: t, g: g, w: peopleOf("ann", "bob")}).stands("behind a change of what was handed in")
}

// Calls that are refused leave what was handed in as it was, too.
func TestMemoryOfRefusals(t *testing.T) {
	s, bob := sit(t, "ann", 1), speak("bob", 2)
	s.learns(bob.card())
	l := bob.letterOf("text")
	var lists []handed
	for _, b := range [][]byte{nil, bob.card(), turned(bob.card(), 800), bob.card()[:50], append(bob.card(), 0)} {
		h := hand(b)
		if s.learn(h.list) == nil {
			t.Fatal("a card is taken")
		}
		lists = append(lists, h)
	}
	none := l
	none.box = make([]byte, 16)
	for _, b := range [][]byte{nil, l.signed(bob.key), none.signed(bob.seed), bob.letterAt(0, make([]byte, 65)).signed(bob.seed), bob.letterAt(3, make([]byte, 65)).signed(bob.seed), l.signed(bob.seed)[:99]} {
		h := hand(b)
		if _, err := s.receive(h.list, x); err == nil {
			t.Fatal("a message is heard")
		}
		lists = append(lists, h)
	}
	w := peopleOf("ann")
	w.me = "ann"
	h := hand(w.export())
	imports(t, "oneself", h.list, api.ErrExport)
	spoil(t, append(lists, h)...)
	s.stands("behind refusals")
}

// Each list that is given is nobody's but the caller's.
func TestMemoryOfWhatIsGiven(t *testing.T) {
	s, bob := sit(t, "ann", 1), speak("bob", 2)
	s.learns(bob.card())
	l := bob.saysAll(4)
	s.hears(l[2], "bob", 0, 2, "2")
	twin, err := group.Import(s.g.Export())
	if err != nil {
		t.Fatal(err)
	}
	for name, call := range map[string]func(g *group.Group) []byte{
		"Card":    func(g *group.Group) []byte { return g.Card() },
		"Export":  func(g *group.Group) []byte { return g.Export() },
		"Send":    func(g *group.Group) []byte { return fine(g.Send([]byte("text"), x)) },
		"Receive": func(g *group.Group) []byte { return fine(g.Receive(l[0], x)).Plain },
	} {
		one := call(s.g)
		other := call(twin)
		was := slices.Clone(other)
		fill(one)
		if !bytes.Equal(other, was) {
			t.Fatalf("%s: an answer changes with another one", name)
		}
		down := twin.Export()
		fill(other)
		if !bytes.Equal(s.g.Export(), down) || !bytes.Equal(twin.Export(), down) || !bytes.Equal(s.g.Card(), twin.Card()) {
			t.Fatalf("%s: the group changes with what it gave", name)
		}
	}
	names := s.g.Members()
	others := s.g.Members()
	names = append(names[:0], "spoilt", "spoilt")
	for i := range names[:cap(names)] {
		names[:cap(names)][i] = "spoilt"
	}
	if !slices.Equal(others, []string{"ann", "bob"}) || !slices.Equal(s.g.Members(), others) {
		t.Fatal("Members changes with another one")
	}
}

// What was given does not change with the group.
func TestMemoryOfLaterCalls(t *testing.T) {
	s, bob := sit(t, "ann", 1), speak("bob", 2)
	s.learns(bob.card())
	l := bob.saysAll(4)
	lists := [][]byte{s.g.Export(), s.g.Card(), fine(s.g.Send([]byte("text"), x)), fine(s.g.Receive(l[1], x)).Plain, s.g.Export()}
	names := s.g.Members()
	var was [][]byte
	for _, b := range lists {
		was = append(was, slices.Clone(b[:cap(b)]))
	}
	fine(s.g.Send([]byte("text"), x))
	fine(s.g.Receive(l[0], x))
	fine(s.g.Receive(l[3], x))
	must(t, "Remove", s.g.Remove("bob", seedOf(7)))
	for i, b := range lists {
		if !bytes.Equal(b[:cap(b)], was[i]) {
			t.Errorf("the answer %d changes with the group", i)
		}
	}
	if !slices.Equal(names, []string{"ann", "bob"}) {
		t.Error("Members changes with the group")
	}
}

// An error is a new one each time, and so is the fault in it.
func TestErrorsAreNew(t *testing.T) {
	s, bob := sit(t, "ann", 1), speak("bob", 2)
	s.learns(bob.card())
	w := peopleOf("ann")
	w.me = "ann"
	card, export := bob.card(), w.export()
	full := speak("carl", 3)
	full.num = mostCount
	end := from(t, full)
	for what, call := range map[string]func() error{
		"Learn of no card":       func() error { return s.g.Learn(card[:9]) },
		"Learn of an elder one":  func() error { return s.g.Learn(card) },
		"Receive of nothing":     func() error { _, err := s.g.Receive(nil, nil); return err },
		"Receive of a card":      func() error { _, err := s.g.Receive(card, nil); return err },
		"Receive of no member's": func() error { _, err := s.g.Receive(full.letterOf("x").signed(full.seed), nil); return err },
		"Send of too much":       func() error { _, err := s.g.Send(make([]byte, mostPlain+1), nil); return err },
		"Send at the end":        func() error { _, err := end.g.Send(nil, nil); return err },
		"Import of nothing":      func() error { _, err := group.Import(nil); return err },
		"Import of no state":     func() error { _, err := group.Import(export); return err },
	} {
		one, other := call(), call()
		first, is := one.(*api.Wrap)
		if !is || one == other || !sameError(one, other) {
			t.Fatalf("%s: %v and %v", what, one, other)
		}
		if f, is := first.Err.(*api.Fault); is {
			*f = api.Fault{Line: 7, At: -7, Why: api.ErrArg}
		}
		first.Part, first.Err = 99, api.ErrArg
		if third := call(); !sameError(third, other) {
			t.Fatalf("%s: an error changes with another one", what)
		}
	}
	s.stands("behind refusals")
}

// Two groups of one seed go their own ways, and so do a group and what is made of its bytes.
func TestTwoGroups(t *testing.T) {
	one, two := sit(t, "ann", 1), sit(t, "ann", 1)
	bob := speak("bob", 2)
	one.learns(bob.card())
	l := bob.saysAll(3)
	one.hears(l[2], "bob", 0, 2, "2")
	three := from(t, one.w)
	two.stands("behind another one's calls")
	must(t, "Renew", one.renew(seedOf(9)))
	three.hears(l[0], "bob", 0, 0, "0")
	one.stands("behind another one's calls")
	one.hears(l[0], "bob", 0, 0, "0")
	must(t, "Remove", three.remove("bob", seedOf(9)))
	one.hears(l[1], "bob", 0, 1, "1")
	three.stands("behind another one's calls")
	two.stands("behind another one's calls")
}

// Groups of their own may be used at one time.
func TestGroupsAtOneTime(t *testing.T) {
	bob := speak("bob", 2)
	card, l := bob.card(), bob.saysAll(6)
	var all sync.WaitGroup
	exports := make([][]byte, 8)
	for i := range exports {
		all.Go(func() {
			g, e := group.New(here, "ann", seedOf(1), good)
			if e != api.OK || g.Learn(card) != nil {
				return
			}
			for _, n := range []int{3, 1, 5, 0} {
				if s, err := g.Receive(l[n], x); err != nil || string(s.Plain) != string(rune('0'+n)) {
					return
				}
			}
			if _, err := g.Send([]byte("text"), x); err != nil {
				return
			}
			exports[i] = g.Export()
		})
	}
	all.Wait()
	for _, b := range exports {
		if len(b) == 0 || !bytes.Equal(b, exports[0]) {
			t.Fatal("what they come to is not alike")
		}
	}
}
