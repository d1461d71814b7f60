package trust_test

import (
	"slices"
	"testing"

	"pawl/api"
	"pawl/trust"
)

// MaxContacts and MaxEvents, and what is still answered there.

func TestFullOfContacts(t *testing.T) {
	s := newBoth(t, own)
	l := people(mostContacts + 2)
	for _, name := range l[:mostContacts] {
		s.do(see(name, x))
	}
	s.check("64 contacts")
	if n := len(s.b.Contacts()); n != mostContacts {
		t.Fatalf("%d contacts", n)
	}
	s.must(see(l[64], x), api.ErrFull)
	s.must(see(l[65], zero), api.ErrFull)
	s.must(see(l[0], x), api.OK)
	s.must(see(l[0], y), api.ErrChanged)
	s.must(accept(l[0]), api.OK)
	s.must(block(l[63]), api.OK)
	s.must(see(l[64], x), api.ErrFull) // a blocked one counts
	s.must(forget(l[63]), api.OK)
	s.must(see(l[64], x), api.OK)
	s.must(see(l[63], x), api.ErrFull)
	s.must(forget(l[0]), api.OK)
	s.must(see(l[63], y), api.OK)
	if n := len(s.b.Contacts()); n != mostContacts {
		t.Fatalf("%d contacts", n)
	}
}

// TestReplayOfManyContacts: the 65th EvSeen can't be, one of a name that was forgotten can.
func TestReplayOfManyContacts(t *testing.T) {
	var l []api.Event
	for _, name := range people(mostContacts + 1) {
		l = append(l, api.Event{Kind: api.EvSeen, Name: name, Key: x})
	}
	if e := checkReplay(t, l[:mostContacts]); e != api.OK {
		t.Error(e)
	}
	if e := checkReplay(t, l); e != api.ErrEvent {
		t.Error(e)
	}
	gone := api.Event{Kind: api.EvForgotten, Name: l[7].Name}
	if e := checkReplay(t, slices.Concat(l[:mostContacts], []api.Event{gone}, l[mostContacts:])); e != api.OK {
		t.Error(e)
	}
	if e := checkReplay(t, slices.Concat(l[:mostContacts], []api.Event{gone}, l[mostContacts:], l[7:8])); e != api.ErrEvent {
		t.Error(e)
	}
}

// TestFullOfEvents: behind each thing that a contact can be, with room for one event, and with none: each call.
func TestFullOfEvents(t *testing.T) {
	for _, l := range behind() {
		for room := range 3 {
			first := filled(mostEvents-len(l)-room, "bob")
			all := slices.Concat(first, l)
			if len(all) != mostEvents-room {
				t.Fatalf("%d events", len(all))
			}
			ready := bothOf(t, own, all)
			for _, key := range []api.Key{zero, x, y, z} {
				for _, c := range append(everyCall("ann", own, key), see("Ann", key), see("eve", key), forget("eve")) {
					b, e := trust.Replay(own, all)
					if e != api.OK {
						t.Fatal(e)
					}
					s := &both{t, b, &told{own, slices.Clone(ready.w.events)}}
					s.do(c)
					if !slices.Equal(s.b.Events(), s.w.events) || !slices.Equal(s.b.Contacts(), s.w.contacts()) {
						t.Fatalf("%v with room for %d: %v", c, room, s.b.Contacts())
					}
				}
			}
		}
	}
}

// The same, with the answers written down.
func TestNoRoom(t *testing.T) {
	events := func(l ...api.Event) *both {
		return bothOf(t, own, slices.Concat(filled(mostEvents-len(l), "bob"), l))
	}
	seen := api.Event{Kind: api.EvSeen, Name: "ann", Key: x}
	s := events(seen)
	s.must(see("ann", x), api.OK)
	s.must(see("ann", y), api.ErrFull) // it would make an event
	s.stands(api.Contact{Name: "ann", Key: x, State: api.Seen})
	if !s.b.May("ann", x) {
		t.Error("May of the key that stands")
	}
	s.must(see("eve", y), api.ErrFull)
	s.must(accept("ann"), api.ErrCalm)
	s.must(accept("eve"), api.ErrContact)
	s.must(confirm("ann", numberOf(own, y)), api.ErrSafety)
	s.must(confirm("ann", numberOf(own, x)), api.ErrFull)
	s.must(block("ann"), api.ErrFull)
	s.must(block("eve"), api.ErrContact)
	s.must(unblock("ann"), api.ErrCalm)
	s.must(forget("ann"), api.ErrFull)
	s.must(forget("eve"), api.ErrContact)
	s = events(seen, api.Event{Kind: api.EvChanged, Name: "ann", Key: y})
	s.must(see("ann", x), api.ErrChanged)
	s.must(see("ann", y), api.ErrChanged)
	s.must(see("ann", z), api.ErrFull)
	s.must(accept("ann"), api.ErrFull)
	s.must(confirm("ann", numberOf(own, x)), api.ErrSafety)
	s.must(confirm("ann", numberOf(own, y)), api.ErrFull)
	s = events(seen, api.Event{Kind: api.EvBlocked, Name: "ann"})
	s.must(see("ann", y), api.ErrBlocked)
	s.must(confirm("ann", numberOf(own, x)), api.ErrBlocked)
	s.must(block("ann"), api.ErrBlocked)
	s.must(unblock("ann"), api.ErrFull)
	s.must(forget("ann"), api.ErrFull)
}

// TestTheLastEvent: a book comes to MaxEvents by its own calls, too, and not beyond.
func TestTheLastEvent(t *testing.T) {
	b := trust.New(own)
	for i := range mostEvents {
		want := api.ErrChanged
		if i == 0 {
			want = api.OK
		}
		if e := b.See("ann", api.Key{byte(i), byte(i >> 8)}); e != want {
			t.Fatalf("See %d: %v", i, e)
		}
	}
	for range 2 {
		if e := b.See("ann", api.Key{7, 7, 7}); e != api.ErrFull || len(b.Events()) != mostEvents {
			t.Fatalf("beyond: %v, %d events", e, len(b.Events()))
		}
	}
	if e := checkReplay(t, b.Events()); e != api.OK {
		t.Error(e)
	}
}

// P22.8: ErrFull is looked at ahead of what the events are; of so many as there may be it is not answered.
func TestReplayOfManyEvents(t *testing.T) {
	for _, n := range []int{0, 1, 2, 1022, 1023, 1024} {
		l := filled(n, "ann")
		if e := checkReplay(t, l); e != api.OK {
			t.Errorf("%d events: %v", n, e)
		}
		if n == 0 {
			continue
		}
		l[n-1].Kind = 9
		if e := checkReplay(t, l); e != api.ErrEvent {
			t.Errorf("%d events, the last one wrong: %v", n, e)
		}
		l[0].Name = ""
		if e := checkReplay(t, l); e != api.ErrEvent {
			t.Errorf("%d events, the first one wrong: %v", n, e)
		}
	}
	for _, n := range []int{1025, 1026, 2048, 5000} {
		l := filled(n, "ann")
		if e := checkReplay(t, l); e != api.ErrFull {
			t.Errorf("%d events: %v", n, e)
		}
		l[0].Name = ""
		if e := checkReplay(t, l); e != api.ErrFull {
			t.Errorf("%d events, the first one wrong: %v", n, e)
		}
		if e := checkReplay(t, make([]api.Event, n)); e != api.ErrFull {
			t.Errorf("%d zero events: %v", n, e)
		}
	}
}
