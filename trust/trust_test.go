package trust_test

import (
	"math"
	"slices"
	"strings"
	"testing"

	"pawl/api"
	"pawl/trust"
)

// P22.1
func TestNew(t *testing.T) {
	for _, k := range []api.Key{own, zero, {31: 1}} {
		s := newBoth(t, k)
		s.check("New")
		if len(s.b.Events()) != 0 || len(s.b.Contacts()) != 0 || s.b.May("ann", zero) || s.b.May("", zero) {
			t.Errorf("a new book of %x tells something", k)
		}
		for _, c := range everyCall("ann", k, x)[1:] {
			s.must(c, api.ErrContact)
		}
	}
}

// names and noNames are at the edges of what a name is.
func names() []string {
	return []string{"a", "z", "az", "ann", strings.Repeat("a", 16), strings.Repeat("z", 16), strings.Repeat("m", 15)}
}

func noNames() []string {
	l := []string{"", strings.Repeat("a", 17), strings.Repeat("z", 32), strings.Repeat("a", 256), strings.Repeat("a", 257), strings.Repeat("a", 1<<16+1), "ä", "ann ", " ann", "an\x00n", "ａｎｎ", "Ann", "aNn", "ann1", "a-b", "ann\n", "\xff", "`", "{"}
	for at := range 16 {
		for _, wrong := range []byte{0, 'A', 'Z', 'a' - 1, 'z' + 1, '0', ' ', 0x80, 'a' + 0x80, 0xff} {
			name := []byte("abcdefghijklmnop")
			name[at] = wrong
			l = append(l, string(name), string(name[:at+1]))
		}
	}
	return l
}

// A name in See (P22.2) and in an event (22.1, P22.8, P22.9).
func TestNames(t *testing.T) {
	for i := range 256 {
		name := string([]byte{byte(i)})
		want := api.ErrArg
		if 'a' <= i && i <= 'z' {
			want = api.OK
		}
		newBoth(t, own).must(see(name, x), want)
		newBoth(t, own).must(see("b"+name, x), want)
	}
	for _, name := range names() {
		newBoth(t, own).must(see(name, x), api.OK)
		bothOf(t, own, []api.Event{{Kind: api.EvSeen, Name: name, Key: x}}).check(name)
	}
	for _, name := range noNames() {
		s := bothOf(t, own, []api.Event{{Kind: api.EvSeen, Name: "abcdefghijklmnop", Key: x}, {Kind: api.EvSeen, Name: "ann", Key: x}})
		s.must(see(name, x), api.ErrArg)
		for _, c := range everyCall(name, own, x)[1:] {
			s.must(c, api.ErrContact)
		}
		if s.b.May(name, x) {
			t.Errorf("May(%q)", name)
		}
		for kind := 1; kind <= 7; kind++ {
			for _, key := range []api.Key{zero, x} {
				if b, e := trust.Replay(own, []api.Event{{Kind: kind, Name: name, Key: key}}); b != nil || e != api.ErrEvent {
					t.Errorf("Replay of kind %d of %q: %v", kind, name, e)
				}
			}
		}
	}
}

// ErrArg comes ahead of ErrFull, of either kind.
func TestNoNameInAFullBook(t *testing.T) {
	var l []api.Event
	for _, name := range people(mostContacts) {
		l = append(l, api.Event{Kind: api.EvSeen, Name: name, Key: x})
	}
	s := bothOf(t, own, l)
	s.must(see("Ann", x), api.ErrArg)
	s.must(see("", x), api.ErrArg)
	full := bothOf(t, own, filled(mostEvents, "ann"))
	full.must(see("Ann", x), api.ErrArg)
	full.must(see(strings.Repeat("a", 17), x), api.ErrArg)
}

// behind are events that make each thing that a contact can be, of the keys zero, x, y and z: all that can be reached.
func behind() [][]api.Event {
	keys := []api.Key{zero, x, y, z}
	reached := [][]api.Event{nil}
	seen := map[api.Contact]bool{{}: true}
	for at := 0; at < len(reached); at++ {
		for kind := 1; kind <= 7; kind++ {
			for _, key := range keys {
				w, _ := replayByWords(own, reached[at])
				e := api.Event{Kind: kind, Name: "ann", Key: key}
				if !w.can(e) {
					continue
				}
				w.events = append(w.events, e)
				if c, _ := w.contact("ann"); !seen[c] {
					seen[c] = true
					reached = append(reached, w.events)
				}
			}
		}
	}
	return reached
}

// TestBehind: nothing, and of four keys each as Seen, Verified and Blocked, and Changed with each of the other three.
func TestBehind(t *testing.T) {
	if n := len(behind()); n != 1+3*4+4*3 {
		t.Errorf("%d states", n)
	}
}

// TestEveryEvent is the table of 22.1, by Replay: each event behind each thing that a contact can be, with another contact beside it.
func TestEveryEvent(t *testing.T) {
	kinds := []int{0, 1, 2, 3, 4, 5, 6, 7, 8, 9, -1, 255, 256, 257, 1 << 16, 1<<16 + 1, 1 << 32, 1<<32 + 1, 1<<32 + 7, math.MaxInt, math.MinInt, math.MinInt + 1}
	for _, beside := range []string{"", "an", "anna"} {
		for _, l := range behind() {
			if beside != "" {
				l = slices.Concat([]api.Event{{Kind: api.EvSeen, Name: beside, Key: z}}, l)
			}
			for _, kind := range kinds {
				for _, key := range []api.Key{zero, x, y, z, {31: 1}} {
					for _, name := range []string{"ann", "bob"} {
						checkReplay(t, slices.Concat(l, []api.Event{{Kind: kind, Name: name, Key: key}}))
					}
				}
			}
		}
	}
}

// checkReplay is P22.8 of any list.
func checkReplay(t *testing.T, l []api.Event) api.Errno {
	t.Helper()
	w, want := replayByWords(own, l)
	b, got := trust.Replay(own, l)
	if got != want || (b == nil) != (want != api.OK) {
		t.Fatalf("Replay(%v): %v, not %v", l, got, want)
	}
	if want == api.OK {
		checkBook(t, "Replay", b, w)
	}
	return got
}

// TestEveryCall is P22.2 to P22.7: each call behind each thing that a contact can be.
func TestEveryCall(t *testing.T) {
	for _, l := range behind() {
		for _, key := range []api.Key{zero, x, y, z, {31: 1}} {
			for _, name := range []string{"ann", "an", "anna", "Ann", ""} {
				for _, c := range everyCall(name, own, key) {
					s := bothOf(t, own, l)
					s.do(c)
					s.check(c.String())
				}
			}
		}
	}
}

// Each call by itself, with the answers of the document written down.
func TestSee(t *testing.T) {
	s := newBoth(t, own)
	s.must(see("ann", x), api.OK) // of nobody
	s.stands(api.Contact{Name: "ann", Key: x, State: api.Seen})
	s.must(see("ann", x), api.OK)
	s.must(see("ann", y), api.ErrChanged)
	s.stands(api.Contact{Name: "ann", Key: x, Next: y, State: api.Changed})
	s.must(see("ann", y), api.ErrChanged)
	s.must(see("ann", x), api.ErrChanged)
	if n := len(s.b.Events()); n != 2 {
		t.Errorf("%d events", n)
	}
	s.must(see("ann", z), api.ErrChanged) // a third one takes the place of the one that waits
	s.stands(api.Contact{Name: "ann", Key: x, Next: z, State: api.Changed})
	s.must(see("ann", y), api.ErrChanged)
	s.stands(api.Contact{Name: "ann", Key: x, Next: y, State: api.Changed})
	if n := len(s.b.Events()); n != 4 {
		t.Errorf("%d events", n)
	}
	s.must(confirm("ann", numberOf(own, y)), api.OK)
	s.must(see("ann", y), api.OK) // Verified
	s.stands(api.Contact{Name: "ann", Key: y, State: api.Verified})
	s.must(see("ann", x), api.ErrChanged)
	s.stands(api.Contact{Name: "ann", Key: y, Next: x, State: api.Changed})
	s.must(block("ann"), api.OK)
	for _, key := range []api.Key{x, y, z, zero} {
		s.must(see("ann", key), api.ErrBlocked)
	}
}

// The zero key is a key like any other.
func TestZeroKey(t *testing.T) {
	s := newBoth(t, own)
	s.must(see("ann", zero), api.OK)
	s.stands(api.Contact{Name: "ann", State: api.Seen})
	if !s.b.May("ann", zero) || s.b.May("bob", zero) {
		t.Error("May of the zero key")
	}
	s.must(see("ann", zero), api.OK)
	s.must(see("ann", x), api.ErrChanged)
	s.must(see("ann", zero), api.ErrChanged)
	s.must(accept("ann"), api.OK)
	s.must(see("ann", zero), api.ErrChanged)
	s.stands(api.Contact{Name: "ann", Key: x, State: api.Changed})
	if s.b.May("ann", zero) {
		t.Error("May of a zero key that waits")
	}
	s.must(confirm("ann", numberOf(own, zero)), api.OK)
	s.stands(api.Contact{Name: "ann", State: api.Verified})
	if n := len(s.b.Events()); n != 5 {
		t.Errorf("%d events", n)
	}
}

// Keys that are unlike in one bit are unlike.
func TestEveryBit(t *testing.T) {
	first := api.Key{1, 2, 3, 31: 5}
	for bit := range 256 {
		other := first
		other[bit/8] ^= 1 << (bit % 8)
		s := newBoth(t, own)
		s.do(see("ann", first))
		if s.b.May("ann", other) || !s.b.May("ann", first) {
			t.Fatalf("May, bit %d", bit)
		}
		s.do(see("ann", other))
		s.stands(api.Contact{Name: "ann", Key: first, Next: other, State: api.Changed})
		s.do(accept("ann"))
		if !s.b.May("ann", other) || s.b.May("ann", first) {
			t.Fatalf("May behind Accept, bit %d", bit)
		}
		single := api.Key{}
		single[bit/8] = 1 << (bit % 8)
		for _, kind := range []int{api.EvBlocked, api.EvForgotten} {
			checkReplay(t, []api.Event{{Kind: 1, Name: "ann", Key: first}, {Kind: kind, Name: "ann", Key: single}})
		}
		checkReplay(t, []api.Event{{Kind: 1, Name: "ann", Key: first}, {Kind: 5, Name: "ann"}, {Kind: 6, Name: "ann", Key: single}})
		checkReplay(t, []api.Event{{Kind: 1, Name: "ann", Key: first}, {Kind: 4, Name: "ann", Key: other}})
		checkReplay(t, []api.Event{{Kind: 1, Name: "ann", Key: first}, {Kind: 2, Name: "ann", Key: x}, {Kind: 3, Name: "ann", Key: other}})
	}
}

// May changes nothing, whatever it is asked (P22.3).
func TestMay(t *testing.T) {
	for _, l := range behind() {
		s := bothOf(t, own, l)
		for _, name := range append(noNames(), names()...) {
			for _, key := range []api.Key{zero, x, y, z} {
				if got := s.b.May(name, key); got != s.w.may(name, key) {
					t.Fatalf("May(%q, %x): %v", name, key, got)
				}
			}
		}
		s.check("May")
	}
}

func TestAccept(t *testing.T) {
	s := newBoth(t, own)
	s.must(accept("ann"), api.ErrContact)
	s.must(see("ann", x), api.OK)
	s.must(accept("ann"), api.ErrCalm)
	s.must(confirm("ann", numberOf(own, x)), api.OK)
	s.must(accept("ann"), api.ErrCalm)
	s.must(see("ann", y), api.ErrChanged)
	s.must(accept("bob"), api.ErrContact)
	s.must(accept("ann"), api.OK)
	s.stands(api.Contact{Name: "ann", Key: y, State: api.Seen}) // no longer Verified
	if e := s.b.Events(); e[len(e)-1] != (api.Event{Kind: api.EvAccepted, Name: "ann", Key: y}) {
		t.Errorf("the event %v", e[len(e)-1])
	}
	s.must(block("ann"), api.OK)
	s.must(accept("ann"), api.ErrCalm)
}

// Confirm takes the one number, in its one form, of one's own key and the contact's.
func TestConfirm(t *testing.T) {
	right := numberOf(own, y)
	other, _ := strings.CutPrefix(right, digitsOf(y, 100)+" ") // y is below own: its digits come first
	if other != digitsOf(own, 100) {
		t.Fatalf("the number %s", right)
	}
	wrong := []string{"", right + " ", " " + right, right + "\n", right[:70], right + "0", strings.ReplaceAll(right, " ", ""), strings.ReplaceAll(right, " ", "  "),
		other + " " + digitsOf(y, 100), digitsOf(y, 100), numberOf(own, x), numberOf(y, x), numberOf(y, y), numberOf(own, own), numberOf(own, zero),
		digitsOf(y, 99) + " " + digitsOf(own, 99), digitsOf(y, 101) + " " + digitsOf(own, 101), digitsOf(y, 1) + " " + digitsOf(own, 1), digitsOf(y, 100) + " " + digitsOf(own, 99)}
	for at := range right {
		b := []byte(right)
		b[at] ^= 1
		wrong = append(wrong, string(b))
	}
	for _, l := range [][]api.Event{
		{{Kind: 1, Name: "ann", Key: y}},
		{{Kind: 1, Name: "ann", Key: y}, {Kind: 4, Name: "ann", Key: y}},
		{{Kind: 1, Name: "ann", Key: x}, {Kind: 2, Name: "ann", Key: y}},
	} {
		s := bothOf(t, own, l)
		for _, number := range wrong {
			s.do(confirm("ann", number))
		}
		if !slices.Equal(s.b.Events(), l) {
			t.Fatalf("events: %v", s.b.Events())
		}
		s.must(confirm("bob", right), api.ErrContact)
		s.must(confirm("ann", right), api.OK)
		s.stands(api.Contact{Name: "ann", Key: y, State: api.Verified})
		s.must(confirm("ann", right), api.OK) // and once more, with an event of its own
		if n := len(s.b.Events()); n != len(l)+2 {
			t.Errorf("%d events", n)
		}
		s.must(block("ann"), api.OK)
		s.must(confirm("ann", right), api.ErrBlocked)
		s.must(confirm("ann", ""), api.ErrBlocked)
	}
}

// Blocked with a key that waits, a contact goes on with the one that stood (22.1: no Next behind it).
func TestBlockOfChanged(t *testing.T) {
	s := newBoth(t, own)
	s.must(block("ann"), api.ErrContact)
	s.must(unblock("ann"), api.ErrContact)
	s.must(see("ann", x), api.OK)
	s.must(unblock("ann"), api.ErrCalm)
	s.must(see("ann", y), api.ErrChanged)
	s.must(unblock("ann"), api.ErrCalm)
	s.must(block("ann"), api.OK)
	s.stands(api.Contact{Name: "ann", Key: x, State: api.Blocked})
	s.must(block("ann"), api.ErrBlocked)
	s.must(unblock("ann"), api.OK)
	s.stands(api.Contact{Name: "ann", Key: x, State: api.Seen})
	if !s.b.May("ann", x) || s.b.May("ann", y) {
		t.Error("May behind Unblock")
	}
	s.must(see("ann", y), api.ErrChanged)
	s.must(see("ann", x), api.ErrChanged)
}

// Forget of whatever a contact is; of the key that was there nothing is left.
func TestForget(t *testing.T) {
	for _, l := range behind()[1:] {
		s := bothOf(t, own, l)
		if len(s.w.contacts()) == 0 {
			t.Fatal("nobody")
		}
		s.must(forget("bob"), api.ErrContact)
		s.must(forget("ann"), api.OK)
		if len(s.b.Contacts()) != 0 || s.b.May("ann", x) {
			t.Errorf("%v behind Forget", s.b.Contacts())
		}
		s.must(forget("ann"), api.ErrContact)
		s.must(see("ann", api.Key{77}), api.OK)
		s.stands(api.Contact{Name: "ann", Key: api.Key{77}, State: api.Seen})
	}
}

// P22.7: by their names rising, byte by byte, a name ahead of those that it begins.
func TestOrder(t *testing.T) {
	l := []string{"m", "zz", "a", "ab", "aa", "b", "abcdefghijklmnop", "abcdefghijklmno", "z", "az", "ba", "aaa"}
	want := slices.Clone(l)
	slices.Sort(want)
	for turn := range l {
		s := newBoth(t, own)
		for i := range l {
			s.must(see(l[(turn+i)%len(l)], api.Key{byte(i)}), api.OK)
		}
		var got []string
		for _, c := range s.b.Contacts() {
			got = append(got, c.Name)
		}
		if !slices.Equal(got, want) {
			t.Fatalf("%v", got)
		}
		for i, name := range l {
			s.must(forget(name), api.OK)
			if len(s.b.Contacts()) != len(l)-1-i {
				t.Fatalf("%d contacts", len(s.b.Contacts()))
			}
		}
	}
}

// The zero Book, which the document leaves open, ends no call by a panic.
func TestZeroBook(t *testing.T) {
	var b trust.Book
	for _, c := range append(everyCall("ann", zero, x), everyCall("ann", zero, y)...) {
		c.on(&b)
	}
	b.May("ann", x)
	b.Contacts()
	b.Events()
	b.Export()
}
