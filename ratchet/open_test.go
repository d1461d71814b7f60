package ratchet_test

import (
	"bytes"
	"slices"
	"testing"

	"pawl/api"
)

// P13.4: what is refused without a key, and by the header.

// letterTo is a letter that a side of a state opens, if it refuses nothing, bounds set aside: under a header key, with a header. Where there is no message's key to come to, it is sealed under one of zeros.
func letterTo(s api.State, under api.Key, head api.Header) letter {
	version := s.Config.Version
	s.Config.Skip, s.Config.Store = 4*mostSkip, 4*mostStore
	k, _, _, _ := readByWords(s, under, head)
	return letter{version, under, head, k}
}

// opens holds that a letter opens, with this work, at a side of its own.
func opens(t *testing.T, s api.State, l letter, trials, steps int) {
	t.Helper()
	from(t, s).hears(t, l.envelope([]byte("said"), []byte("x")), "said", trials, steps)
}

// refused holds that a letter is refused, with no step made, whether its body is right or not.
func refused(t *testing.T, s api.State, l letter, why api.Errno, trials int) {
	t.Helper()
	x := from(t, s)
	e := l.envelope([]byte("said"), []byte("x"))
	x.refuses(t, e, []byte("x"), why, trials, 0)
	x.refuses(t, e, []byte("y"), why, trials, 0)
	e.Body[0] ^= 1
	x.refuses(t, e, []byte("x"), why, trials, 0)
}

// inChain is a letter of the receiving chain's next message.
func inChain(s api.State) letter {
	return letterTo(s, s.RecvHeader, api.Header{Public: s.Peer, N: s.RecvN})
}

// Refusals 1, each by itself and two at once; no header is tried.
func TestOpenRefusesWithoutAKey(t *testing.T) {
	d := newDrawer(720)
	s := d.full(api.Config{Version: 2, Skip: 3, Store: 9}, 5)
	x := from(t, s)
	right := inChain(s).envelope([]byte("said"), nil)
	longExtra, longBody := d.bytes(mostExtra+1), d.bytes(mostBox+17)
	hold := func(why api.Errno, extra []byte, change ...func(e *api.Envelope)) {
		t.Helper()
		e := right
		for _, c := range change {
			c(&e)
		}
		x.refuses(t, e, extra, why, 0, 0)
	}
	long := func(e *api.Envelope) { e.Body = longBody }
	version := func(v int) func(e *api.Envelope) { return func(e *api.Envelope) { e.Version = v } }
	header := func(n int) func(e *api.Envelope) {
		return func(e *api.Envelope) { e.Header = append(slices.Clone(right.Header), make([]byte, 60)...)[:n] }
	}
	body := func(n int) func(e *api.Envelope) { return func(e *api.Envelope) { e.Body = right.Body[:n] } }
	hold(api.ErrLong, longExtra)
	hold(api.ErrLong, d.bytes(1<<17))
	hold(api.ErrLong, nil, long)
	hold(api.ErrLong, longExtra, long)
	hold(api.ErrLong, longExtra, version(3))
	hold(api.ErrLong, nil, long, version(1))
	hold(api.ErrLong, nil, long, header(59))
	hold(api.ErrLong, longExtra, body(15))
	for _, v := range append(wrongVersions, 1) {
		hold(api.ErrVersion, nil, version(v))
		hold(api.ErrVersion, nil, version(v), header(0))
		hold(api.ErrVersion, d.bytes(mostExtra), version(v), body(0))
	}
	for _, n := range []int{0, 1, 16, 44, 59, 61, 62, 64, 120} {
		hold(api.ErrParts, nil, header(n))
		hold(api.ErrParts, d.bytes(mostExtra), header(n), body(15))
	}
	for n := range 16 {
		hold(api.ErrParts, nil, body(n))
		hold(api.ErrParts, nil, body(n), func(e *api.Envelope) { e.Header = make([]byte, 60) })
	}
	hold(api.ErrParts, nil, header(61), func(e *api.Envelope) { e.Body = longBody[:mostBox+16] })
	if body, work, why := x.open(t, right, nil); string(body) != "said" || work != (api.Work{Trials: 2, Steps: 1}) || why != api.OK {
		t.Errorf("behind all that: %q, %v, %v", body, work, why)
	}
}

// At the bounds it goes on: to a body that opens, and to one that does not.
func TestOpenAtTheBounds(t *testing.T) {
	d := newDrawer(721)
	s := d.full(api.Config{Version: 1, Skip: 3, Store: 9}, 0)
	extra := d.bytes(mostExtra)
	for _, n := range []int{0, 1, mostBox - 1, mostBox} {
		body := d.bytes(n)
		e := inChain(s).envelope(body, extra)
		x := from(t, s)
		x.refuses(t, e, extra[1:], api.ErrBody, 1, 1)
		if got, work, why := x.open(t, e, extra); !bytes.Equal(got, body) || work != (api.Work{Trials: 1, Steps: 1}) || why != api.OK {
			t.Errorf("of %d bytes: %v, %v", n, work, why)
		}
	}
}

// The other version's envelope, made with all keys, is refused by each.
func TestOpenOfTheOtherVersion(t *testing.T) {
	d := newDrawer(722)
	for version := 1; version <= 2; version++ {
		s := d.full(api.Config{Version: version, Skip: 3, Store: 9}, 0)
		x := from(t, s)
		l := inChain(s)
		l.version = 3 - version
		e := l.envelope([]byte("said"), nil)
		x.refuses(t, e, nil, api.ErrVersion, 0, 0)
		e.Version = version // the header's box answers for it
		x.refuses(t, e, nil, api.ErrHeader, 2, 0)
		right := inChain(s).envelope([]byte("said"), nil)
		e.Header = right.Header // and so does the body's
		x.refuses(t, e, nil, api.ErrBody, 1, 1)
	}
}

// crowd is a state whose candidates are told by letters: spares under a, b, a, c, b; then those of the chains.
func crowd(d drawer) (s api.State, a, b, c api.Key) {
	s = d.full(api.Config{Version: 1, Skip: 3, Store: 9}, 5)
	a, b, c = d.key(), d.key(), d.key()
	for i, k := range []api.Key{a, b, a, c, b} {
		s.Spares[i].Header = k
	}
	return s, a, b, c
}

// The candidates in their order, each once.
func TestOpenTriesInOrder(t *testing.T) {
	d := newDrawer(723)
	s, a, b, c := crowd(d)
	trials := func(s api.State, under api.Key, want int) {
		t.Helper()
		l := letterTo(s, under, api.Header{Public: s.Peer, N: 50})
		_, work, why := from(t, s).open(t, l.envelope(nil, nil), nil)
		if work.Trials != want || (why == api.ErrHeader) != !slices.Contains(candidatesByWords(s), under) {
			t.Errorf("%d trials, %v, not %d", work.Trials, why, want)
		}
	}
	for under, want := range map[api.Key]int{a: 1, b: 2, c: 3, s.RecvHeader: 4, s.NextRecv: 5, s.SendHeader: 5, s.NextSend: 5, {}: 5, d.key(): 5} {
		trials(s, under, want)
	}
	alike := s
	alike.RecvHeader, alike.NextRecv = b, a
	for under, want := range map[api.Key]int{a: 1, b: 2, c: 3, d.key(): 3} {
		trials(alike, under, want)
	}
	alike.RecvHeader, alike.NextRecv = s.NextRecv, s.NextRecv
	for under, want := range map[api.Key]int{c: 3, s.NextRecv: 4, d.key(): 4} {
		trials(alike, under, want)
	}
	alike.RecvHeader, alike.NextRecv = s.RecvHeader, c
	for under, want := range map[api.Key]int{c: 3, s.RecvHeader: 4, d.key(): 4} {
		trials(alike, under, want)
	}
	alike.Spares = nil
	for under, want := range map[api.Key]int{s.RecvHeader: 1, c: 2, a: 2} {
		trials(alike, under, want)
	}
	alone := states(d)["sent"] // no receiving chain: its header key, of zeros, is not tried
	alone.Spares = nil
	for under, want := range map[api.Key]int{alone.NextRecv: 1, {}: 1} {
		trials(alone, under, want)
	}
	alone.NextRecv = api.Key{} // but as the next one it is
	trials(alone, api.Key{}, 1)
}

// As many candidates as there can be: the last of them opens, one that is none does not.
func TestOpenTriesAll(t *testing.T) {
	d := newDrawer(724)
	s := d.full(api.Config{Version: 2, Skip: mostSkip, Store: mostStore}, mostStore)
	for i := range s.Spares {
		s.Spares[i].Header = d.key()
	}
	x := from(t, s)
	e := letterTo(s, d.key(), api.Header{}).envelope(nil, nil)
	x.refuses(t, e, nil, api.ErrHeader, mostStore+2, 0)
	e = letterTo(s, s.NextRecv, api.Header{Public: s.Peer, Prev: s.RecvN}).envelope([]byte("last"), []byte("x"))
	x.hears(t, e, "last", mostStore+2, 1)
	e = letterTo(s, s.Spares[mostStore-1].Header, api.Header{N: mostStore - 1}).envelope([]byte("spare"), []byte("x"))
	x.hears(t, e, "spare", mostStore, 0)
}

// A header of which one bit was turned, or the nonce, opens under no candidate.
func TestOpenOfASpoiledHeader(t *testing.T) {
	d := newDrawer(725)
	s, a, _, _ := crowd(d)
	for _, under := range []api.Key{a, s.RecvHeader, s.NextRecv} {
		x := from(t, s)
		e := letterTo(s, under, api.Header{Public: s.Peer, N: s.RecvN}).envelope(nil, nil)
		for bit := range 480 {
			bad := e
			bad.Header = turned(e.Header, bit)
			x.refuses(t, bad, nil, api.ErrHeader, 5, 0)
		}
		for bit := range 128 {
			bad := e
			bad.Nonce = api.Nonce(turned(e.Nonce[:], bit))
			x.refuses(t, bad, nil, api.ErrHeader, 5, 0)
		}
	}
}

// One that opens and says no header: refused at its place, whatever else would be.
func TestOpenOfNoHeader(t *testing.T) {
	d := newDrawer(726)
	s, a, b, c := crowd(d)
	right := headerByWords(api.Header{Public: s.Peer, N: s.RecvN})
	var heads [][]byte
	for _, at := range []int{0, 1, 34, 39} {
		for bit := range 8 {
			heads = append(heads, turned(right, 8*at+bit))
		}
	}
	heads = append(heads, make([]byte, 44), bytes.Repeat([]byte{0xff}, 44), slices.Concat(right[34:], right[:34]), slices.Concat(right[:34], right[39:], right[34:39]))
	for i, under := range []api.Key{a, b, c, s.RecvHeader, s.NextRecv} {
		x := from(t, s)
		l := letterTo(s, under, api.Header{Public: s.Peer, N: s.RecvN})
		_, nonce := messageByWords(l.message)
		for _, head := range heads {
			x.refuses(t, l.envelopeOf(nonce, head, []byte("said"), nil), nil, api.ErrHeader, i+1, 0)
		}
	}
	alice := states(d)["alice"]
	l := letterTo(alice, alice.NextRecv, api.Header{})
	from(t, alice).refuses(t, l.envelopeOf(api.Nonce{}, heads[0], nil, nil), nil, api.ErrHeader, 1, 0)
}

// The body's refusals, at each way: a bit turned, another extra, the body of another message, the message's nonce.
func TestOpenOfASpoiledBody(t *testing.T) {
	d := newDrawer(727)
	s := d.full(api.Config{Version: 1, Skip: 3, Store: 9}, 3)
	for _, way := range []struct {
		under         api.Key
		head          api.Header
		trials, steps int
	}{
		{s.Spares[1].Header, api.Header{N: s.Spares[1].N}, 1, 0},
		{s.RecvHeader, api.Header{N: s.RecvN + 2}, 2, 3},
		{s.NextRecv, api.Header{Public: d.pair().Public, Prev: s.RecvN + 1, N: 3}, 3, 5},
	} {
		x := from(t, s)
		l := letterTo(s, way.under, way.head)
		e := l.envelope([]byte("said"), []byte("x"))
		no := func(bad api.Envelope, extra []byte) {
			t.Helper()
			x.refuses(t, bad, extra, api.ErrBody, way.trials, way.steps)
		}
		for bit := range 8 * len(e.Body) {
			bad := e
			bad.Body = turned(e.Body, bit)
			no(bad, []byte("x"))
		}
		for _, extra := range [][]byte{nil, {0}, []byte("y"), []byte("X"), []byte("xx"), []byte(" x"), d.bytes(mostExtra)} {
			no(e, extra)
		}
		bad := e
		for _, body := range [][]byte{e.Body[1:], append(slices.Clone(e.Body), 0), make([]byte, 16), make([]byte, 80)} {
			bad.Body = body
			no(bad, []byte("x"))
		}
		other := l
		other.message = d.key()
		bad.Body = other.envelope([]byte("said"), []byte("x")).Body
		no(bad, []byte("x"))
		checkNonces(t, s, l, way.trials, way.steps)
		x.hears(t, e, "said", way.trials, way.steps)
	}
}

// The nonce of the envelope is the header's; the body's is that of the message's key, whatever stands in the envelope.
func checkNonces(t *testing.T, s api.State, l letter, trials, steps int) {
	t.Helper()
	nonce := api.Nonce{3, 1, 4}
	e := l.envelopeOf(nonce, headerByWords(l.header), []byte("said"), []byte("x"))
	from(t, s).hears(t, e, "said", trials, steps)
	key, own := messageByWords(l.message)
	under := slices.Concat([]byte{byte(l.version)}, nonce[:], e.Header, []byte("x"))
	e.Body = boxByWords(key, nonce, under, []byte("said"))
	from(t, s).refuses(t, e, []byte("x"), api.ErrBody, trials, steps)
	e.Body = boxByWords(key, own, slices.Concat([]byte{byte(l.version)}, own[:], e.Header, []byte("x")), []byte("said"))
	from(t, s).refuses(t, e, []byte("x"), api.ErrBody, trials, steps)
}
