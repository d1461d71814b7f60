package ratchet_test

import (
	"bytes"
	"slices"
	"sync"
	"testing"

	"pawl/api"
	"pawl/ratchet"
)

// What is handed in is neither changed nor kept, and what is given is new memory, room too; two sides know nothing of one another.

// fill overwrites a list, room too.
func fill(b []byte) {
	b = b[:cap(b)]
	for i := range b {
		b[i] ^= 0xa5
	}
}

func fillSpares(l []api.Spare) {
	l = l[:cap(l)]
	for i := range l {
		l[i] = api.Spare{Header: api.Key{0xa5}, N: 7, Message: api.Key{0xa5}}
	}
}

// handed is a list as it is handed in, with room behind it, and all that it stands in.
func handed(b []byte) (list, whole []byte) {
	whole = slices.Concat(b, []byte{0x11, 0x22, 0x33})
	return whole[:len(b)], whole
}

func TestMemoryOfStates(t *testing.T) {
	d := newDrawer(770)
	for n := range 12 {
		s := d.full(api.Config{Version: 1, Skip: 3, Store: 15}, n)
		whole := slices.Concat(s.Spares, []api.Spare{{N: 1}, {N: 2}})
		was := slices.Clone(whole)
		s.Spares = whole[:n]
		if why := ratchet.Check(s); why != api.OK {
			t.Fatal(why)
		}
		x := from(t, s)
		x.hears(t, letterTo(s, s.RecvHeader, api.Header{N: s.RecvN + 2}).envelope([]byte("b"), []byte("x")), "b", len(candidatesByWords(s))-1, 3)
		x.forget(t, 1)
		if !slices.Equal(whole, was) {
			t.Fatal("what was handed in has changed")
		}
		fillSpares(whole)
		x.stands(t, "behind a change of what was handed in")
		one, other := x.r.State(), x.r.State()
		fillSpares(one.Spares)
		x.stands(t, "behind a change of what was given")
		if !same(other, x.w.s) {
			t.Fatal("an answer changes with another one")
		}
		kept := copied(other)
		x.forget(t, 1)
		if !same(other, kept) {
			t.Fatal("an answer changes with the side")
		}
	}
}

// A state that is refused is not changed either.
func TestMemoryOfStatesThatAreRefused(t *testing.T) {
	d := newDrawer(771)
	s := d.full(api.Config{Version: 1, Skip: 3, Store: 5}, 5)
	s.Spares = append(s.Spares, s.Spares[1])
	was := slices.Clone(s.Spares)
	if r, why := ratchet.From(s); r != nil || why != api.ErrState || ratchet.Check(s) != api.ErrState || !slices.Equal(s.Spares, was) {
		t.Errorf("From: %v, %v", r, why)
	}
}

func TestMemoryOfSeal(t *testing.T) {
	d := newDrawer(772)
	for _, n := range []int{0, 1, 15, 16, 64, 100} {
		for _, turn := range []bool{false, true} {
			s := d.full(good, 2)
			s.Turn = turn
			body, bodyWhole := handed(d.bytes(n))
			extra, extraWhole := handed(d.bytes(n / 2))
			seed, seedWhole := handed(d.bytes(32))
			wasBody, wasExtra, wasSeed := slices.Clone(bodyWhole), slices.Clone(extraWhole), slices.Clone(seedWhole)
			x, y := from(t, s), from(t, s)
			one, other := x.sealed(t, body, extra, seed), y.sealed(t, body, extra, seed)
			if !bytes.Equal(bodyWhole, wasBody) || !bytes.Equal(extraWhole, wasExtra) || !bytes.Equal(seedWhole, wasSeed) {
				t.Fatal("what was handed in has changed")
			}
			fill(bodyWhole)
			fill(extraWhole)
			fill(seedWhole)
			x.stands(t, "behind a change of what was handed in")
			if !sameEnvelope(one, other) {
				t.Fatal("an answer changes with what was handed in, or hangs on more than it")
			}
			header := slices.Clone(one.Header)
			fill(one.Body)
			if !bytes.Equal(one.Header, header) {
				t.Fatal("the header changes with the body")
			}
			body = slices.Clone(other.Body)
			fill(one.Header)
			if !bytes.Equal(other.Header, header) || !bytes.Equal(other.Body, body) {
				t.Fatal("an answer changes with another one")
			}
			x.stands(t, "behind a change of what was given")
			if a, b := x.sealed(t, nil, nil, nil), y.sealed(t, nil, nil, nil); !sameEnvelope(a, b) {
				t.Fatal("the next one hangs on what was done to the last one")
			}
		}
	}
}

func TestMemoryOfOpen(t *testing.T) {
	d := newDrawer(773)
	s := d.full(api.Config{Version: 1, Skip: 3, Store: 9}, 3)
	for _, l := range []letter{
		letterTo(s, s.Spares[1].Header, api.Header{N: s.Spares[1].N}),
		letterTo(s, s.RecvHeader, api.Header{N: s.RecvN + 1}),
		letterTo(s, s.NextRecv, api.Header{Public: s.Peer, Prev: s.RecvN + 2, N: 2}),
	} {
		for _, n := range []int{0, 1, 16, 64} {
			body := d.bytes(n)
			e := l.envelope(body, []byte("extra"))
			var header, box, extra []byte
			var headerWhole, boxWhole, extraWhole []byte
			header, headerWhole = handed(e.Header)
			box, boxWhole = handed(e.Body)
			extra, extraWhole = handed([]byte("extra"))
			was := [][]byte{slices.Clone(headerWhole), slices.Clone(boxWhole), slices.Clone(extraWhole)}
			e.Header, e.Body = header, box
			x, y := from(t, s), from(t, s)
			x.refuses(t, e, extra[:4], api.ErrBody, slices.Index(candidatesByWords(s), l.under)+1, lenSteps(s, l))
			one, _, why := x.open(t, e, extra)
			other, _, _ := y.open(t, e, extra)
			if why != api.OK || !bytes.Equal(one, body) || !bytes.Equal(headerWhole, was[0]) || !bytes.Equal(boxWhole, was[1]) || !bytes.Equal(extraWhole, was[2]) {
				t.Fatal("what was handed in has changed")
			}
			fill(headerWhole)
			fill(boxWhole)
			fill(extraWhole)
			if !bytes.Equal(one, body) {
				t.Fatal("the answer changes with what was handed in")
			}
			x.stands(t, "behind a change of what was handed in")
			fill(one)
			x.stands(t, "behind a change of what was given")
			if !bytes.Equal(other, body) {
				t.Fatal("an answer changes with another one")
			}
		}
	}
}

// lenSteps is how many steps a letter takes.
func lenSteps(s api.State, l letter) int {
	_, steps, _, _ := readByWords(s, l.under, l.header)
	return steps
}

// Sides that went out of one state know nothing of each other.
func TestSidesByTurns(t *testing.T) {
	d := newDrawer(774)
	s := d.full(api.Config{Version: 2, Skip: 3, Store: 9}, 4)
	x, y := from(t, s), from(t, s)
	x.hears(t, letterTo(s, s.RecvHeader, api.Header{N: s.RecvN + 2}).envelope([]byte("b"), []byte("x")), "b", 2, 3)
	y.stands(t, "behind an Open at another side")
	y.forget(t, 2)
	x.stands(t, "behind a Forget at another side")
	z := from(t, x.r.State())
	z.sends(t, "z", 1)
	x.stands(t, "behind a Seal at another side")
	z.hears(t, letterTo(s, s.Spares[0].Header, api.Header{N: 0}).envelope([]byte("b"), []byte("x")), "b", 1, 0)
	x.stands(t, "behind an Open at another side")
}

// Sides of their own may be used at one time.
func TestSidesAtOneTime(t *testing.T) {
	d := newDrawer(775)
	s := d.full(api.Config{Version: 1, Skip: 3, Store: 9}, 4)
	e := letterTo(s, s.RecvHeader, api.Header{N: s.RecvN + 2}).envelope([]byte("b"), []byte("x"))
	want := from(t, s)
	want.hears(t, e, "b", 2, 3)
	sent := want.sends(t, "c", 1)
	var all sync.WaitGroup
	for i := range 8 {
		all.Go(func() {
			r, why := ratchet.From(s)
			if why != api.OK {
				t.Errorf("number %d: From: %v", i, why)
				return
			}
			body, _, why := r.Open(e, []byte("x"))
			out, _ := r.Seal([]byte("c"), []byte("x"), seedOf(1))
			if string(body) != "b" || why != api.OK || !sameEnvelope(out, sent) || !same(r.State(), want.w.s) {
				t.Errorf("number %d: %q, %v", i, body, why)
			}
		})
	}
	all.Wait()
}
