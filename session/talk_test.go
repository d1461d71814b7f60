package session_test

import (
	"bytes"
	"slices"
	"testing"

	"pawl/api"
	"pawl/session"
)

// P15.10, P15.13 and P15.14: what it comes to where two talk.

// sentOne is an envelope on its way, and what it was made of.
type sentOne struct {
	b            []byte
	plain, extra []byte
}

// says sends something drawn that must be sent.
func (x duo) says(t *testing.T, d drawer) sentOne {
	t.Helper()
	one := sentOne{plain: d.bytes(d.Intn(200)), extra: d.bytes(d.Intn(20))}
	var err error
	if one.b, err = x.send(t, one.plain, one.extra, d.bytes(32)); err != nil {
		t.Fatalf("Send: %v", err)
	}
	return one
}

// takes hands it one that must be heard.
func (x duo) takes(t *testing.T, one sentOne) api.Work {
	t.Helper()
	got, err := x.receive(t, one.b, one.extra)
	if err != nil || !bytes.Equal(got.Plain, one.plain) {
		t.Fatalf("Receive: %x, %v, not %x", got.Plain, err, one.plain)
	}
	return got.Work
}

// gone holds that one that was heard is not heard again.
func (x duo) gone(t *testing.T, one sentOne) {
	t.Helper()
	got, err := x.receive(t, one.b, one.extra)
	if !sameError(err, wrap(api.PartRatchet, api.ErrOld)) && !sameError(err, wrap(api.PartHeader, api.ErrHeader)) || got.Work.Steps != 0 {
		t.Fatalf("one that was heard comes again: %v, %v", got, err)
	}
}

var talkConfigs = []api.Config{{Version: 1, Skip: 2, Store: 3}, {Version: 2}, {Version: 2, Skip: mostSkip, Store: mostStore}}

// In order, none lost, whoever writes how many ahead of the other.
func TestHeardInOrder(t *testing.T) {
	d := newDrawer(940)
	for _, c := range talkConfigs {
		a, b := sides(t, c)
		for range 10 {
			for range 1 + d.Intn(3) {
				one := a.says(t, d)
				if work := b.takes(t, one); work.Steps != 1 {
					t.Fatalf("the work is %v", work)
				}
				b.gone(t, one)
			}
			a, b = b, a
		}
	}
}

// walker is a side in a drawn run: what it sent, and which of the other one's it has heard.
type walker struct {
	duo
	sent  []sentOne
	heard map[int]bool
}

// hear hands it one that the other sent: the first time it must be heard, as long as nothing was refused for its distance; later it must not. It answers whether it was refused so.
func (p *walker) hear(t *testing.T, other *walker, at int, broken bool) bool {
	t.Helper()
	one := other.sent[at]
	if p.heard[at] {
		p.gone(t, one)
		return broken
	}
	got, err := p.receive(t, one.b, one.extra)
	far := sameError(err, wrap(api.PartRatchet, api.ErrSkip)) || sameError(err, wrap(api.PartRatchet, api.ErrStore))
	switch {
	case err == nil && bytes.Equal(got.Plain, one.plain):
		p.heard[at] = true
	case err == nil || !broken && !far:
		t.Fatalf("Receive: %x, %v, not %x", got.Plain, err, one.plain)
	}
	return broken || far
}

// P15.13: in whatever order, whatever is lost or comes twice.
func TestHeardInOtherOrders(t *testing.T) {
	d := newDrawer(941)
	heard, refused := 0, 0
	for run := range 24 {
		c := api.Config{Version: 1 + run%2, Skip: mostSkip, Store: mostStore}
		if run%3 == 0 {
			c.Skip, c.Store = 1+d.Intn(3), 1+d.Intn(4)
		}
		alice, bob := sides(t, c)
		all := []*walker{{alice, nil, map[int]bool{}}, {bob, nil, map[int]bool{}}}
		var broken [2]bool
		for range 60 {
			me := d.Intn(2)
			p, other := all[me], all[1-me]
			switch {
			case d.Intn(5) < 2 && (p.w.s.Turn || p.w.s.HasSend):
				p.sent = append(p.sent, p.says(t, d))
			case len(other.sent) > 0:
				near := min(len(other.sent), 7)
				at := len(other.sent) - 1 - d.Intn(near)
				broken[me] = p.hear(t, other, at, broken[me])
			}
		}
		for me, p := range all {
			for at := range all[1-me].sent { // at last all that were late
				broken[me] = p.hear(t, all[1-me], at, broken[me])
			}
			if heard += len(p.heard); !broken[me] && len(p.heard) != len(all[1-me].sent) {
				t.Fatalf("%d of %d were heard", len(p.heard), len(all[1-me].sent))
			}
			if broken[me] {
				refused++
			}
		}
	}
	if heard < 300 || refused < 4 {
		t.Errorf("%d were heard, %d sides refused something", heard, refused)
	}
}

// orders are all orders of so many.
func orders(n int) [][]int {
	if n == 0 {
		return [][]int{nil}
	}
	var out [][]int
	for _, l := range orders(n - 1) {
		for i := range n {
			out = append(out, slices.Insert(slices.Clone(l), i, n-1))
		}
	}
	return out
}

// twoChains are messages of Alice's on their way to Bob, the first of one chain, the others of the next one.
func twoChains(t *testing.T, d drawer, c api.Config, first, next int) (duo, []sentOne) {
	t.Helper()
	alice, bob := sides(t, c)
	bob.takes(t, alice.says(t, d))
	var way []sentOne
	for range first {
		way = append(way, alice.says(t, d))
	}
	alice.takes(t, bob.says(t, d))
	for range next {
		way = append(way, alice.says(t, d))
	}
	return bob, way
}

// P15.14: two chains' messages in any order are all heard, once, and come to one state.
func TestInAnyOrder(t *testing.T) {
	d := newDrawer(942)
	bob, way := twoChains(t, d, api.Config{Version: 2, Skip: 3, Store: 6}, 2, 3)
	var end []byte
	for _, order := range orders(len(way)) {
		x := from(t, bob.s.State())
		for _, at := range order {
			x.takes(t, way[at])
			x.gone(t, way[at])
		}
		if end == nil {
			end = x.s.Export()
		}
		if s := x.s.State(); !bytes.Equal(x.s.Export(), end) || len(s.Spares) != 0 || s.RecvN != 3 {
			t.Fatalf("in the order %v it comes to %+v", order, s)
		}
	}
}

// More of them in drawn orders, some being heard ahead of all that.
func TestInDrawnOrders(t *testing.T) {
	d := newDrawer(943)
	bob, way := twoChains(t, d, api.Config{Version: 1, Skip: 20, Store: 40}, 7, 12)
	bob.takes(t, way[4])
	bob.takes(t, way[9])
	way = slices.Delete(way, 9, 10)
	way = slices.Delete(way, 4, 5)
	var end []byte
	for range 40 {
		x := from(t, bob.s.State())
		for _, at := range d.Perm(len(way)) {
			x.takes(t, way[at])
		}
		if end == nil {
			end = x.s.Export()
		}
		if !bytes.Equal(x.s.Export(), end) || len(x.s.State().Spares) != 0 {
			t.Fatalf("it comes to %+v", x.s.State())
		}
	}
}

// P15.10: a session that was laid down at any time, and taken up again, answers as the first one does, whatever it is asked; the first one does not change by it, and the two go on apart.
func TestGoesOnAlike(t *testing.T) {
	d := newDrawer(944)
	alice, bob := sides(t, api.Config{Version: 1, Skip: 4, Store: 6})
	var toBob, toAlice [][]byte
	for range 60 {
		if b, err := alice.send(t, d.bytes(d.Intn(70)), nil, d.bytes(32)); err == nil {
			toBob = append(toBob, b)
		}
		bob.receive(t, toBob[max(0, len(toBob)-1-d.Intn(5))], nil)
		if b, err := bob.send(t, d.bytes(d.Intn(70)), nil, d.bytes(32)); err == nil {
			toAlice = append(toAlice, b)
			alice.receive(t, toAlice[max(0, len(toAlice)-1-d.Intn(5))], nil)
		}
		for _, x := range []*duo{&alice, &bob} {
			was := x.s.Export()
			again, err := session.Import(was)
			if err != nil || !bytes.Equal(again.Export(), was) {
				t.Fatalf("Import of an Export: %v", err)
			}
			other := duo{again, &sideByWords{copied(x.w.s)}}
			other.send(t, []byte("by the other one"), nil, d.bytes(32))
			other.receive(t, toBob[d.Intn(len(toBob))], nil)
			other.forget(t, 1)
			x.stands(t, "behind the other one's calls")
			if d.coin() {
				x.s, err = session.Import(was)
				if err != nil {
					t.Fatal(err)
				}
			}
		}
	}
}

// Of two of one state, what each is asked by the same calls is answered alike; what one alone is asked, the other does not know.
func TestImportedOnesAreApart(t *testing.T) {
	d := newDrawer(945)
	bob, way := twoChains(t, d, api.Config{Version: 2, Skip: 5, Store: 9}, 3, 3)
	b := bob.s.Export()
	one, _ := session.Import(b)
	other, err := session.Import(b)
	if err != nil {
		t.Fatal(err)
	}
	for _, x := range way[1:] { // the first one is left out: a spare of it stays
		if got, err := one.Receive(x.b, x.extra); err != nil || !bytes.Equal(got.Plain, x.plain) {
			t.Fatal(err)
		}
	}
	if !bytes.Equal(other.Export(), b) || !bytes.Equal(bob.s.Export(), b) {
		t.Fatal("what one hears changes another one")
	}
	for _, x := range way[1:] {
		if got, err := other.Receive(x.b, x.extra); err != nil || !bytes.Equal(got.Plain, x.plain) {
			t.Fatal(err)
		}
	}
	if one.Forget(1) != 1 || bytes.Equal(one.Export(), other.Export()) {
		t.Fatal("what one forgets another one forgets")
	}
	if got, err := other.Receive(way[0].b, way[0].extra); err != nil || !bytes.Equal(got.Plain, way[0].plain) || !bytes.Equal(one.Export(), other.Export()) {
		t.Fatalf("%v, or another state", err)
	}
	first, err1 := one.Send([]byte("a"), nil, seedOf(3))
	second, err2 := other.Send([]byte("a"), nil, seedOf(3))
	if err1 != nil || err2 != nil || !bytes.Equal(first, second) {
		t.Fatal("two of one state send unlike envelopes")
	}
}

// Two who have other keys, or other extras, hear nothing of one another, and one does not hear oneself.
func TestOthersHearNothing(t *testing.T) {
	d := newDrawer(946)
	alice, bob := sides(t, api.Config{Version: 1, Skip: 3, Store: 12})
	one := alice.says(t, d)
	header, body := wrap(api.PartHeader, api.ErrHeader), wrap(api.PartBody, api.ErrBody)
	for i, change := range []func(s *api.State){
		func(s *api.State) { s.NextRecv[5] ^= 1 },
		func(s *api.State) { s.Root[5] ^= 1 },
		func(s *api.State) { s.Own = d.pair() },
	} {
		s := bob.s.State()
		change(&s)
		if i == 0 {
			from(t, s).refuses(t, one.b, one.extra, header, 1, 0)
		} else {
			from(t, s).refuses(t, one.b, one.extra, body, 1, 1)
		}
	}
	bob.refuses(t, one.b, append(slices.Clone(one.extra), 0), body, 1, 1)
	alice.refuses(t, one.b, one.extra, header, 1, 0)
	bob.takes(t, one)
}
