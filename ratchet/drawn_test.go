package ratchet_test

import (
	"slices"
	"testing"

	"pawl/api"
)

// P1, P4 and P13.9: drawn calls one behind the other, held against the words.

// person is a side in a drawn run: what it sent, which of the other one's it has taken.
type person struct {
	duo
	sent  []sentOne
	taken map[int]int
}

// checkWork holds P13.9 of a call.
func (p *person) checkWork(t *testing.T, work api.Work) {
	t.Helper()
	s := p.r.State()
	if work.Trials > s.Config.Store+2 || work.Steps > 2*s.Config.Skip+1 || work.Trials < 0 || work.Steps < 0 || len(s.Spares) > s.Config.Store {
		t.Fatalf("beyond the bounds of %v: %v, %d spares", s.Config, work, len(s.Spares))
	}
}

// hear hands it one of the other's envelopes, near the last ones as a rule.
func (p *person) hear(t *testing.T, d drawer, other *person) api.Errno {
	t.Helper()
	if len(other.sent) == 0 {
		return api.OK
	}
	at := d.Intn(len(other.sent))
	if d.Intn(3) > 0 {
		at = max(0, len(other.sent)-1-d.Intn(6))
	}
	one := other.sent[at]
	body, work, why := p.open(t, one.e, one.extra)
	p.checkWork(t, work)
	_, was := p.taken[at]
	if was && (why != api.ErrOld && why != api.ErrHeader || work.Steps != 0) {
		t.Fatalf("one that was taken: %v, %v", work, why)
	}
	if why == api.OK {
		p.taken[at]++
		if string(body) != string(one.body) {
			t.Fatalf("%x, not %x", body, one.body)
		}
	}
	return why
}

// spoiled is an envelope with something turned.
func (d drawer) spoiled(e api.Envelope) api.Envelope {
	switch d.Intn(6) {
	case 0:
		e.Version = d.Intn(4)
	case 1:
		e.Nonce = api.Nonce(turned(e.Nonce[:], d.Intn(128)))
	case 2:
		e.Header = turned(e.Header, d.Intn(8*len(e.Header)))
	case 3:
		e.Header = e.Header[:d.Intn(len(e.Header))]
	case 4:
		e.Body = e.Body[:d.Intn(len(e.Body))]
	default:
		e.Body = turned(e.Body, d.Intn(8*len(e.Body)))
	}
	return e
}

// disturb hands it something that is not as it was sent.
func (p *person) disturb(t *testing.T, d drawer, other *person) api.Errno {
	t.Helper()
	l := slices.Concat(other.sent, p.sent)
	if len(l) == 0 {
		return api.OK
	}
	one := l[d.Intn(len(l))]
	e := d.spoiled(one.e)
	if e.Version == one.e.Version && sameEnvelope(e, one.e) {
		return api.OK
	}
	_, work, why := p.open(t, e, one.extra)
	p.checkWork(t, work)
	if why == api.OK {
		t.Fatal("a spoiled one was taken")
	}
	return why
}

func TestDrawnTalks(t *testing.T) {
	d := newDrawer(760)
	seen := map[api.Errno]int{}
	for run := range 80 {
		c := api.Config{Version: 1 + run%2, Skip: d.Intn(6), Store: d.Intn(9)}
		alice, bob := sides(t, c)
		a, b := &person{alice, nil, map[int]int{}}, &person{bob, nil, map[int]int{}}
		for range 120 {
			p, other := a, b
			if d.coin() {
				p, other = b, a
			}
			switch d.Intn(12) {
			case 0, 1, 2, 3:
				one := sentOne{body: d.bytes(d.Intn(70)), extra: d.bytes(d.Intn(9))}
				var why api.Errno
				if one.e, why = p.seal(t, one.body, one.extra, d.bytes(32)); why == api.OK {
					p.sent = append(p.sent, one)
				}
				seen[why]++
			case 4, 5, 6, 7, 8:
				seen[p.hear(t, d, other)]++
			case 9:
				seen[p.disturb(t, d, other)]++
			case 10:
				p.forget(t, d.Intn(9)-6)
			case 11:
				again := from(t, p.r.State())
				p.r = again.r
			}
		}
	}
	for _, why := range []api.Errno{api.OK, api.ErrVersion, api.ErrParts, api.ErrStore, api.ErrSilent, api.ErrHeader, api.ErrSkip, api.ErrOld, api.ErrBody} {
		if seen[why] < 20 {
			t.Errorf("%v came %d times", why, seen[why])
		}
	}
}

// pool is few header keys and pairs, so that what is drawn of it is often alike.
type pool struct {
	headers []api.Key
	pairs   []api.Pair
}

func (d drawer) of(l []api.Key) api.Key { return l[d.Intn(len(l))] }

// count is a counter near 0, near its end, or between.
func (d drawer) count() uint32 {
	switch d.Intn(5) {
	case 0:
		return mostCount - uint32(d.Intn(6))
	case 1:
		return 1<<31 + uint32(d.Intn(6))
	}
	return uint32(d.Intn(8))
}

// state is one that can be, of a pool.
func (d drawer) state(p pool) api.State {
	s := api.State{Config: api.Config{Version: 1 + d.Intn(2), Skip: d.Intn(5), Store: d.Intn(9)},
		Root: d.key(), NextSend: d.of(p.headers), NextRecv: d.of(p.headers), HasOwn: d.Intn(8) > 0}
	if s.HasOwn {
		s.Own = p.pairs[d.Intn(len(p.pairs))]
	}
	s.HasPeer = !s.HasOwn || d.Intn(6) > 0
	if s.HasPeer {
		s.Peer = p.pairs[d.Intn(len(p.pairs))].Public
		s.HasSend = s.HasOwn && d.Intn(3) > 0
		s.HasRecv = s.HasOwn && d.Intn(4) > 0
		s.Turn = !s.HasSend || d.coin()
	}
	if s.HasSend {
		s.Send, s.SendHeader, s.SendN, s.Prev = d.key(), d.of(p.headers), d.count(), d.count()
	}
	if s.HasRecv {
		s.Recv, s.RecvHeader, s.RecvN = d.key(), d.of(p.headers), d.count()
	}
	for range d.Intn(s.Config.Store + 1) {
		one := api.Spare{Header: d.of(p.headers), N: s.RecvN + uint32(d.Intn(7)) - 2, Message: d.key()}
		if d.Intn(3) == 0 {
			one.N = uint32(d.Intn(5))
		}
		if !slices.ContainsFunc(s.Spares, func(x api.Spare) bool { return meet(x, one) }) {
			s.Spares = append(s.Spares, one)
		}
	}
	return s
}

// head is a header near where a state's chains stand.
func (d drawer) head(s api.State, p pool) api.Header {
	h := api.Header{Public: p.pairs[d.Intn(len(p.pairs))].Public, Prev: s.RecvN + uint32(d.Intn(9)) - 2, N: s.RecvN + uint32(d.Intn(8)) - 2}
	if d.Intn(8) == 0 {
		h.Public = weakKeys()[d.Intn(4)]
	}
	if d.coin() {
		h.N = uint32(d.Intn(6))
	}
	if d.Intn(6) == 0 {
		h.N = d.count()
	}
	if d.Intn(6) == 0 {
		h.Prev = d.count()
	}
	return h
}

// States and letters that nobody comes by in a plain run: header keys alike, spares of the chains' own ahead of where they stand, counters at their ends. Each way comes to each of its answers.
func TestDrawnStates(t *testing.T) {
	d := newDrawer(761)
	p := pool{headers: []api.Key{{}}}
	for range 4 {
		p.headers, p.pairs = append(p.headers, d.key()), append(p.pairs, d.pair())
	}
	type answer struct {
		way int
		why api.Errno
	}
	seen := map[answer]int{}
	for range 4000 {
		x := from(t, d.state(p))
		for range 3 {
			s := x.w.s
			under := d.of(candidatesByWords(s))
			head := d.head(s, p)
			l := letterTo(s, under, head)
			if d.Intn(10) == 0 {
				l.message = d.key()
			}
			way := wayByWords(s, under, head.N)
			_, work, why := x.open(t, l.envelope([]byte("said"), nil), nil)
			(&person{duo: x}).checkWork(t, work)
			seen[answer{way, why}]++
			if d.Intn(5) == 0 {
				_, why := x.seal(t, nil, nil, d.bytes(32))
				seen[answer{-1, why}]++
			}
		}
	}
	for way, all := range map[int][]api.Errno{
		-1:      {api.OK, api.ErrSilent, api.ErrExhausted},
		bySpare: {api.OK, api.ErrBody},
		byChain: {api.OK, api.ErrOld, api.ErrExhausted, api.ErrSkip, api.ErrStore, api.ErrTwice, api.ErrBody},
		byTurn:  {api.OK, api.ErrState, api.ErrSkip, api.ErrStore, api.ErrTwice, api.ErrWeak, api.ErrBody},
		byNone:  {api.ErrOld},
	} {
		for _, why := range all {
			if seen[answer{way, why}] < 10 {
				t.Errorf("on the way %d %v came %d times", way, why, seen[answer{way, why}])
			}
		}
	}
}
