package trust_test

import (
	"slices"
	"testing"

	"pawl/agree"
	"pawl/api"
	"pawl/trust"
)

// P22.10 to P22.12: what drawn calls come to, one behind the other.

// drawn are calls in runs of their own.
func drawn(t *testing.T, seed int64, runs, calls int, each func(s *both, c call, answer api.Errno)) {
	for i := range runs {
		d := newDrawer(seed+int64(i), own, people(1+i%6), zero, x, y, z)
		s := newBoth(t, own)
		for range calls {
			c := d.call()
			each(s, c, s.do(c))
		}
		s.check("a run")
	}
}

func TestRuns(t *testing.T) {
	found := map[api.Errno]int{}
	drawn(t, 2210, 60, 150, func(s *both, c call, answer api.Errno) {
		found[answer]++
		s.check(c.String())
	})
	for _, e := range []api.Errno{api.OK, api.ErrContact, api.ErrSafety, api.ErrBlocked, api.ErrChanged, api.ErrCalm} {
		if found[e] < 100 {
			t.Errorf("%v is answered %d times", e, found[e])
		}
	}
}

// Books of many people, up to their ends.
func TestLongRuns(t *testing.T) {
	for seed := range int64(4) {
		d := newDrawer(2220+seed, own, append(people(70), "", "Ann"), zero, x, y, z)
		s := newBoth(t, own)
		for i := range 3000 {
			s.do(d.call())
			if i%500 == 0 {
				s.check("a long run")
			}
		}
		s.check("the end")
		if len(s.b.Events()) != mostEvents {
			t.Errorf("%d events", len(s.b.Events()))
		}
	}
}

// P22.10: whatever is called from any place on, the book, Replay of its events and Import of its bytes answer alike.
func TestReplayed(t *testing.T) {
	for i := range int64(40) {
		d := newDrawer(2230+i, own, people(1+int(i)%5), zero, x, y, z)
		one := trust.New(own)
		for range d.Intn(200) {
			d.call().on(one)
		}
		two, e := trust.Replay(own, one.Events())
		three, err := trust.Import(one.Export())
		if e != api.OK || err != nil {
			t.Fatal(e, err)
		}
		w, _ := replayByWords(own, one.Events())
		for range 100 {
			c := d.call()
			want := c.byWords(w)
			if a, b, c := c.on(one), c.on(two), c.on(three); a != want || b != want || c != want {
				t.Fatalf("%v, %v, %v, not %v", a, b, c, want)
			}
		}
		checkBook(t, "the book", one, w)
		checkBook(t, "Replay", two, w)
		checkBook(t, "Import", three, w)
	}
}

// The own key is kept by Replay, Export and Import: the numbers are those of it.
func TestOwnKeyIsKept(t *testing.T) {
	for _, k := range []api.Key{own, zero, {31: 0x80}, {0: 0xff, 15: 7, 31: 0xff}} {
		b := trust.New(k)
		b.See("ann", x)
		two, e := trust.Replay(k, b.Events())
		three, err := trust.Import(b.Export())
		if e != api.OK || err != nil {
			t.Fatal(e, err)
		}
		for i, b := range []*trust.Book{b, two, three} {
			if e := b.Confirm("ann", numberOf(api.Key{5, 5}, x)); e != api.ErrSafety {
				t.Errorf("%d, another's number: %v", i, e)
			}
			if e := b.Confirm("ann", numberOf(k, x)); e != api.OK {
				t.Errorf("%d: %v", i, e)
			}
		}
	}
}

// TestNoKeyUnasked is P22.11: a key that may be used came first, or was decided on.
func TestNoKeyUnasked(t *testing.T) {
	times := 0
	drawn(t, 2240, 60, 150, func(s *both, c call, answer api.Errno) {
		events := s.b.Events()
		for _, of := range s.b.Contacts() {
			for _, key := range []api.Key{x, y, z} {
				if !s.b.May(of.Name, key) {
					continue
				}
				times++
				if kind := lastOf(events, of.Name, key); kind != api.EvSeen && kind != api.EvAccepted && kind != api.EvVerified {
					t.Fatalf("%s may be used with %x by an event %d", of.Name, key, kind)
				}
			}
		}
	})
	if times < 1000 {
		t.Errorf("only %d times", times)
	}
}

// lastOf is the kind of the last event of a name and a key.
func lastOf(l []api.Event, name string, key api.Key) int {
	for i := len(l) - 1; i >= 0; i-- {
		if l[i].Name == name && l[i].Key == key {
			return l[i].Kind
		}
	}
	return 0
}

// The same in words of calls: a See of another key than the one that stands is never answered OK, until Accept, Confirm or Forget is.
func TestAnotherKeyIsNeverTaken(t *testing.T) {
	stood := map[*both]map[string]api.Key{}
	drawn(t, 2250, 60, 200, func(s *both, c call, answer api.Errno) {
		if stood[s] == nil {
			stood[s] = map[string]api.Key{}
		}
		first, known := stood[s][c.name]
		switch {
		case c.what == "See" && answer == api.OK && !known:
			stood[s][c.name] = c.key
		case c.what == "See" && answer == api.OK && first != c.key:
			t.Fatalf("%v: OK, and %x stood", c, first)
		case answer != api.OK:
		case c.what == "Accept", c.what == "Confirm":
			delete(stood[s], c.name)
			for _, of := range s.b.Contacts() {
				if of.Name == c.name {
					stood[s][c.name] = of.Key
				}
			}
		case c.what == "Forget":
			delete(stood[s], c.name)
		}
	})
}

// TestHeard is P22.12's first half: who is Verified was confirmed with the number of the key that stands, behind all else that was decided.
func TestHeard(t *testing.T) {
	heard := map[*both]map[string]string{}
	times := 0
	drawn(t, 2260, 60, 200, func(s *both, c call, answer api.Errno) {
		if heard[s] == nil {
			heard[s] = map[string]string{}
		}
		if answer == api.OK && c.what != "See" {
			delete(heard[s], c.name)
		}
		if answer == api.OK && c.what == "Confirm" {
			heard[s][c.name] = c.number
		}
		for _, of := range s.b.Contacts() {
			if of.State == api.Verified {
				times++
				if heard[s][of.Name] != numberOf(own, of.Key) {
					t.Fatalf("%s is verified by %q", of.Name, heard[s][of.Name])
				}
			}
		}
	})
	if times < 1000 {
		t.Errorf("only %d times", times)
	}
}

// TestReadAloud is its second half: what one reads, both take.
func TestReadAloud(t *testing.T) {
	keys := []api.Key{zero, x, y, {31: 1}, {31: 255}, {0: 255}, {7, 7, 7}, {7, 7, 8}}
	for _, a := range keys {
		for _, b := range keys {
			number, e := agree.Safety(a, b, api.SafetyRounds)
			if e != api.OK {
				t.Fatal(e)
			}
			ann, bob := trust.New(a), trust.New(b)
			ann.See("bob", b)
			bob.See("ann", a)
			if e := ann.Confirm("bob", number); e != api.OK {
				t.Errorf("%x of %x: %v", a, b, e)
			}
			if e := bob.Confirm("ann", number); e != api.OK {
				t.Errorf("%x of %x: %v", b, a, e)
			}
			if !slices.Equal(ann.Contacts(), []api.Contact{{Name: "bob", Key: b, State: api.Verified}}) || !slices.Equal(bob.Contacts(), []api.Contact{{Name: "ann", Key: a, State: api.Verified}}) {
				t.Errorf("%v, %v", ann.Contacts(), bob.Contacts())
			}
		}
	}
}

// Replay takes an EvVerified as it is told: no number is asked for (P22.8).
func TestReplayBelieves(t *testing.T) {
	s := bothOf(t, own, []api.Event{{Kind: 1, Name: "ann", Key: x}, {Kind: 4, Name: "ann", Key: x}})
	s.stands(api.Contact{Name: "ann", Key: x, State: api.Verified})
}
