package trust_test

import (
	"bytes"
	"crypto/sha256"
	"errors"
	"fmt"
	"math/rand"
	"slices"
	"strings"
	"testing"

	"pawl/api"
	"pawl/schema"
	"pawl/trust"
)

// What the chapter says, done as it is said: a book that keeps its events alone, and goes through all of them whenever it is asked anything; and what several tests draw and hold against each other.

const (
	mostContacts = 64
	mostEvents   = 1024
)

var own, x, y, z, zero = api.Key{9}, api.Key{1}, api.Key{2}, api.Key{3}, api.Key{}

// told is a book by the words.
type told struct {
	own    api.Key
	events []api.Event
}

func nameByWords(s string) bool {
	return s != "" && len(s) <= 16 && strings.Trim(s, "abcdefghijklmnopqrstuvwxyz") == ""
}

// contact is what the events make of one name; false: there is none.
func (w *told) contact(name string) (api.Contact, bool) {
	c, there := api.Contact{Name: name}, false
	for _, e := range w.events {
		if e.Name != name {
			continue
		}
		switch e.Kind {
		case 1:
			there, c.State, c.Key = true, api.Seen, e.Key
		case 2:
			c.State, c.Next = api.Changed, e.Key
		case 3:
			c.State, c.Key = api.Seen, e.Key
		case 4:
			c.State, c.Key = api.Verified, e.Key
		case 5:
			c.State = api.Blocked
		case 6:
			c.State = api.Seen
		case 7:
			there = false
		}
		if c.State != api.Changed {
			c.Next = api.Key{}
		}
	}
	if !there {
		return api.Contact{}, false
	}
	return c, true
}

func (w *told) contacts() []api.Contact {
	names := map[string]bool{}
	for _, e := range w.events {
		names[e.Name] = true
	}
	var l []api.Contact
	for name := range names {
		if c, there := w.contact(name); there {
			l = append(l, c)
		}
	}
	slices.SortFunc(l, func(a, b api.Contact) int { return bytes.Compare([]byte(a.Name), []byte(b.Name)) })
	return l
}

// can is the table's middle column.
func (w *told) can(e api.Event) bool {
	c, there := w.contact(e.Name)
	is := func(states ...int) bool { return there && slices.Contains(states, c.State) }
	if !nameByWords(e.Name) {
		return false
	}
	switch e.Kind {
	case 1:
		return !there && len(w.contacts()) < mostContacts
	case 2:
		return is(1, 2) && c.Key != e.Key || is(3) && e.Key != c.Key && e.Key != c.Next
	case 3:
		return is(3) && c.Next == e.Key
	case 4:
		return is(3) && c.Next == e.Key || is(1, 2) && c.Key == e.Key
	case 5:
		return is(1, 2, 3) && e.Key == zero
	case 6:
		return is(4) && e.Key == zero
	case 7:
		return there && e.Key == zero
	}
	return false
}

// replayByWords is P22.8.
func replayByWords(own api.Key, l []api.Event) (*told, api.Errno) {
	w := &told{own: own}
	if len(l) > mostEvents {
		return nil, api.ErrFull
	}
	for _, e := range l {
		if !w.can(e) {
			return nil, api.ErrEvent
		}
		w.events = append(w.events, e)
	}
	return w, api.OK
}

// make is an event and what is answered to the call that makes it; there being no room, that is ErrFull.
func (w *told) make(kind int, name string, key api.Key, answer api.Errno) api.Errno {
	if len(w.events) == mostEvents {
		return api.ErrFull
	}
	w.events = append(w.events, api.Event{Kind: kind, Name: name, Key: key})
	return answer
}

func (w *told) may(name string, key api.Key) bool {
	c, there := w.contact(name)
	return there && (c.State == api.Seen || c.State == api.Verified) && c.Key == key
}

// call is one of a book's that answers a number: See, Accept, Confirm, Block, Unblock, Forget.
type call struct {
	what   string
	name   string
	key    api.Key
	number string
}

func (c call) String() string {
	return fmt.Sprintf("%s(%q, %x.., %q)", c.what, c.name, c.key[:2], c.number)
}

// on makes the call.
func (c call) on(b *trust.Book) api.Errno {
	switch c.what {
	case "See":
		return b.See(c.name, c.key)
	case "Accept":
		return b.Accept(c.name)
	case "Confirm":
		return b.Confirm(c.name, c.number)
	case "Block":
		return b.Block(c.name)
	case "Unblock":
		return b.Unblock(c.name)
	case "Forget":
		return b.Forget(c.name)
	}
	panic(c.what)
}

// byWords is P22.2 and P22.4 to P22.6.
func (c call) byWords(w *told) api.Errno {
	of, there := w.contact(c.name)
	if c.what == "See" {
		return c.seeByWords(w)
	}
	if !there {
		return api.ErrContact
	}
	blocked := of.State == api.Blocked
	switch {
	case c.what == "Accept" && of.State == api.Changed:
		return w.make(3, c.name, of.Next, api.OK)
	case c.what == "Accept":
		return api.ErrCalm
	case c.what == "Forget":
		return w.make(7, c.name, zero, api.OK)
	case c.what == "Unblock" && blocked:
		return w.make(6, c.name, zero, api.OK)
	case c.what == "Unblock":
		return api.ErrCalm
	case blocked:
		return api.ErrBlocked
	case c.what == "Block":
		return w.make(5, c.name, zero, api.OK)
	}
	key := of.Key
	if of.State == api.Changed {
		key = of.Next
	}
	if c.number != numberOf(w.own, key) {
		return api.ErrSafety
	}
	return w.make(4, c.name, key, api.OK)
}

func (c call) seeByWords(w *told) api.Errno {
	of, there := w.contact(c.name)
	switch {
	case !nameByWords(c.name):
		return api.ErrArg
	case !there && len(w.contacts()) == mostContacts:
		return api.ErrFull
	case !there:
		return w.make(1, c.name, c.key, api.OK)
	case of.State == api.Blocked:
		return api.ErrBlocked
	case of.State != api.Changed && of.Key == c.key:
		return api.OK
	case of.State == api.Changed && (of.Key == c.key || of.Next == c.key):
		return api.ErrChanged
	}
	return w.make(2, c.name, c.key, api.ErrChanged)
}

// export is P22.9's bytes, put together by hand.
func (w *told) export() []byte {
	var list []byte
	for _, e := range w.events {
		list = append(list, byte(2+2+len(e.Name)+2+32), 0x08, byte(e.Kind), 0x12, byte(len(e.Name)))
		list = append(list, e.Name...)
		list = append(list, 0x1a, 0x20)
		list = append(list, e.Key[:]...)
	}
	out := slices.Concat([]byte{0x0a, 0x20}, w.own[:], []byte{0x12})
	n := len(list)
	for ; n > 127; n >>= 7 {
		out = append(out, byte(n)|0x80)
	}
	return slices.Concat(out, []byte{byte(n)}, list)
}

// bookCodec is the schema of P22.9.
func bookCodec(t *testing.T) *schema.Codec {
	t.Helper()
	c, e := schema.Compile([]api.Slot{
		{No: 1, Kind: api.KBytes, Least: 32, Most: 32},
		{No: 2, Kind: api.KList, Least: 0, Most: 1024, Sub: []api.Slot{
			{No: 1, Kind: api.KNum, Least: 1, Most: 7},
			{No: 2, Kind: api.KText, Least: 1, Most: 16},
			{No: 3, Kind: api.KBytes, Least: 32, Most: 32},
		}},
	})
	if e != api.OK {
		t.Fatalf("the schema: %v", e)
	}
	return c
}

// importByWords is Import of P22.9.
func importByWords(t *testing.T, b []byte) (*told, *api.Fault) {
	t.Helper()
	v, err := bookCodec(t).Decode(b)
	if err != nil {
		var f *api.Fault
		if !errors.As(err, &f) {
			t.Fatalf("Decode: %v", err)
		}
		return nil, f
	}
	var l []api.Event
	for _, e := range v.Parts[1].Parts {
		l = append(l, api.Event{Kind: int(e.Parts[0].Num), Name: string(e.Parts[1].Data), Key: api.Key(e.Parts[2].Data)})
	}
	w, e := replayByWords(api.Key(v.Parts[0].Data), l)
	if e != api.OK {
		return nil, &api.Fault{Line: 0, At: 34, Why: api.ErrEvent}
	}
	return w, nil
}

// numberOf is chapter 14's safety number of 100 rounds, by Go's own hash.
func numberOf(a, b api.Key) string {
	if bytes.Compare(a[:], b[:]) > 0 {
		a, b = b, a
	}
	return digitsOf(a, 100) + " " + digitsOf(b, 100)
}

func digitsOf(k api.Key, rounds int) string {
	h := sha256.Sum256(append([]byte("pawl safety"), k[:]...))
	for range rounds - 1 {
		h = sha256.Sum256(append(h[:], k[:]...))
	}
	var out []string
	for i := 0; i < 30; i += 5 {
		n := uint64(h[i])<<32 | uint64(h[i+1])<<24 | uint64(h[i+2])<<16 | uint64(h[i+3])<<8 | uint64(h[i+4])
		out = append(out, fmt.Sprintf("%05d", n%100000))
	}
	return strings.Join(out, " ")
}

// checkBook holds all that a book tells against the words; of May all that could be true, and much that can't.
func checkBook(t *testing.T, what string, b *trust.Book, w *told) {
	t.Helper()
	if got := b.Events(); !slices.Equal(got, w.events) {
		t.Fatalf("%s: events %v, not %v", what, got, w.events)
	}
	got, want := b.Contacts(), w.contacts()
	if !slices.Equal(got, want) {
		t.Fatalf("%s: contacts %v, not %v", what, got, want)
	}
	keys := map[api.Key]bool{zero: true, x: true, y: true, z: true, w.own: true}
	names := map[string]bool{"": true, "a": true, "nobody": true}
	for _, c := range want {
		keys[c.Key], keys[c.Next] = true, true
		names[c.Name] = true
	}
	for name := range names {
		for key := range keys {
			if may := b.May(name, key); may != w.may(name, key) {
				t.Fatalf("%s: May(%q, %x) is %v", what, name, key, may)
			}
		}
	}
	if got := b.Export(); !bytes.Equal(got, w.export()) {
		t.Fatalf("%s: Export %x, not %x", what, got, w.export())
	}
}

// both is a book and the words of it, on which the same calls are made.
type both struct {
	t *testing.T
	b *trust.Book
	w *told
}

func newBoth(t *testing.T, own api.Key) *both {
	return &both{t, trust.New(own), &told{own: own}}
}

// bothOf is the book that events made.
func bothOf(t *testing.T, own api.Key, l []api.Event) *both {
	t.Helper()
	b, e := trust.Replay(own, l)
	w, e2 := replayByWords(own, l)
	if e != api.OK || e2 != api.OK || b == nil {
		t.Fatalf("Replay: %v, by the words %v", e, e2)
	}
	return &both{t, b, w}
}

// do makes a call on both, and holds the answers against each other.
func (s *both) do(c call) api.Errno {
	s.t.Helper()
	got, want := c.on(s.b), c.byWords(s.w)
	if got != want {
		s.t.Fatalf("%v behind %d events: %v, not %v", c, len(s.w.events), got, want)
	}
	return got
}

// must is do with the answer that is asked for; all that the book tells is looked at.
func (s *both) must(c call, want api.Errno) {
	s.t.Helper()
	if got := s.do(c); got != want {
		s.t.Fatalf("%v: %v, not %v", c, got, want)
	}
	s.check(c.String())
}

func (s *both) check(what string) {
	s.t.Helper()
	checkBook(s.t, what, s.b, s.w)
}

// stands: the contact is just so.
func (s *both) stands(c api.Contact) {
	s.t.Helper()
	for _, got := range s.b.Contacts() {
		if got.Name == c.Name {
			if got != c {
				s.t.Fatalf("%v, not %v", got, c)
			}
			return
		}
	}
	s.t.Fatalf("no contact %s", c.Name)
}

func see(name string, key api.Key) call { return call{what: "See", name: name, key: key} }
func accept(name string) call           { return call{what: "Accept", name: name} }
func block(name string) call            { return call{what: "Block", name: name} }
func unblock(name string) call          { return call{what: "Unblock", name: name} }
func forget(name string) call           { return call{what: "Forget", name: name} }

func confirm(name, number string) call {
	return call{what: "Confirm", name: name, number: number}
}

// everyCall is all calls of a name, with that key and the number that it has.
func everyCall(name string, own, key api.Key) []call {
	return []call{see(name, key), accept(name), confirm(name, numberOf(own, key)), block(name), unblock(name), forget(name)}
}

// people are n names, in an order of their own.
func people(n int) []string {
	var l []string
	for i := range n {
		l = append(l, string([]byte{byte('a' + i*7%26), byte('a' + i/26), byte('a' + i*11%26)}))
	}
	return l
}

// drawer draws calls of a few names, with keys of a few.
type drawer struct {
	*rand.Rand
	names   []string
	keys    []api.Key
	numbers []string
}

func newDrawer(seed int64, own api.Key, names []string, keys ...api.Key) *drawer {
	d := &drawer{Rand: rand.New(rand.NewSource(seed)), names: names, keys: keys}
	for _, k := range keys {
		d.numbers = append(d.numbers, numberOf(own, k))
	}
	return d
}

func (d *drawer) call() call {
	what := []string{"See", "See", "See", "See", "Accept", "Accept", "Confirm", "Confirm", "Confirm", "Block", "Unblock", "Unblock", "Forget"}[d.Intn(13)]
	return call{what, d.names[d.Intn(len(d.names))], d.keys[d.Intn(len(d.keys))], d.numbers[d.Intn(len(d.numbers))]}
}

// filled is n events that can be, of one contact who comes and goes.
func filled(n int, name string) []api.Event {
	var l []api.Event
	for i := range n {
		if i%2 == 0 {
			l = append(l, api.Event{Kind: api.EvSeen, Name: name, Key: api.Key{1, byte(i), byte(i >> 8)}})
		} else {
			l = append(l, api.Event{Kind: api.EvForgotten, Name: name})
		}
	}
	return l
}
