package audit

import (
	"slices"

	"pawl/api"
)

// side is what is known of a side: chapter 13's state, with marks in the place of keys. Its steps answer another side, and leave it as it is: so one side may stand in several places.
type side struct {
	standing
	spares []spare // the oldest first
}

// standing is all of a side but its spares.
type standing struct {
	config             api.Config
	root               mark
	own, peer          mark // pairs
	turn               bool
	send, recv         chain
	nextSend, nextRecv mark // the headers of the chains behind these
	prev               int
}

// chain is a chain, its header's mark, and the number of its next message. The zero chain is none.
type chain struct {
	key, header mark
	n           int
}

// spare is the key of a message that was skipped: its chain's and its number.
type spare struct {
	header mark
	n      int
	chain  mark
}

// sealed is what is known of an envelope: its header, the key of its message (its chain's and its number), its plain text, and how many bytes it has in all and in the body's box. torn: its bytes are none of an envelope any more.
type sealed struct {
	header    mark
	public    mark
	prev, n   int
	chain     mark
	plain     []byte
	size, box int
	torn      bool
}

// alike: all marks, numbers and flags of two sides are.
func alike(a, b *side) bool {
	return a.standing == b.standing && slices.Equal(a.spares, b.spares)
}

// write goes on to the next message that is sent, with the pair of a word for a new chain: the side that follows, and the message's header and key. Nothing comes of a side that is silent yet.
func (s *side) write(m marks, word string) (*side, sealed, bool) {
	if !s.turn && s.send == (chain{}) {
		return nil, sealed{}, false
	}
	next := *s
	if s.turn {
		next.own, next.turn = m.pair(word), false
		next.prev = s.send.n
		next.send = chain{header: s.nextSend}
		next.root, next.send.key, next.nextSend = m.turned(s.root, m.both(next.own, s.peer))
	}
	e := sealed{header: next.send.header, public: next.own, prev: next.prev, n: next.send.n, chain: next.send.key}
	next.send.n++
	return &next, e, true
}

// open tries to open an envelope: the side that follows, the work, and why it is refused. A counter's end, keys that share nothing secret and spares that meet are not come to: no script has so many messages, all pairs come of seeds, and of a side's chains no two have one header.
func (s *side) open(m marks, e sealed) (*side, api.Work, api.Errno) {
	tried := s.candidates()
	at := slices.Index(tried, e.header)
	if at < 0 {
		return nil, api.Work{Trials: len(tried)}, api.ErrHeader
	}
	work := api.Work{Trials: at + 1}
	next := *s
	next.spares = slices.Clone(s.spares)
	key, steps, why := next.read(m, e)
	if why != api.OK {
		return nil, work, why
	}
	work.Steps = steps
	if key != e.chain {
		return nil, work, api.ErrBody
	}
	return &next, work, api.OK
}

// candidates are the headers that are known, each once, in the order in which they are tried.
func (s *side) candidates() []mark {
	var all []mark
	add := func(header mark) {
		if header != none && !slices.Contains(all, header) {
			all = append(all, header)
		}
	}
	for _, x := range s.spares {
		add(x.header)
	}
	add(s.recv.header)
	add(s.nextRecv)
	return all
}

// read goes on to the message of a header that opened: the chain whose key it has, and how many steps that took.
func (s *side) read(m marks, e sealed) (mark, int, api.Errno) {
	is := func(x spare) bool { return x.header == e.header && x.n == e.n }
	if i := slices.IndexFunc(s.spares, is); i >= 0 {
		key := s.spares[i].chain
		s.spares = slices.Delete(s.spares, i, i+1)
		return key, 0, api.OK
	}
	switch e.header {
	case s.recv.header:
		return s.goOn(e.n)
	case s.nextRecv:
		return s.turnTo(m, e)
	}
	return none, 0, api.ErrOld
}

// goOn goes on to a message of the receiving chain.
func (s *side) goOn(n int) (mark, int, api.Errno) {
	skipped := n - s.recv.n
	switch {
	case skipped < 0:
		return none, 0, api.ErrOld
	case skipped > s.config.Skip:
		return none, 0, api.ErrSkip
	case skipped > s.room():
		return none, 0, api.ErrStore
	}
	s.skip(skipped)
	s.recv.n++
	return s.recv.key, skipped + 1, api.OK
}

// turnTo finishes the receiving chain, as far as the other side sent in it, and goes on to a message of the new one.
func (s *side) turnTo(m marks, e sealed) (mark, int, api.Errno) {
	if s.own == none {
		return none, 0, api.ErrState
	}
	left := 0
	if s.recv != (chain{}) {
		left = max(0, e.prev-s.recv.n)
	}
	switch {
	case left > s.config.Skip, e.n > s.config.Skip:
		return none, 0, api.ErrSkip
	case left+e.n > s.room():
		return none, 0, api.ErrStore
	}
	s.skip(left)
	s.peer, s.turn = e.public, true
	s.recv = chain{header: s.nextRecv}
	s.root, s.recv.key, s.nextRecv = m.turned(s.root, m.both(s.own, e.public))
	s.skip(e.n)
	s.recv.n++
	return s.recv.key, left + e.n + 1, api.OK
}

// skip goes along the receiving chain over so many messages, whose keys become spares; room is for how many there is room.
func (s *side) skip(count int) {
	for range count {
		s.spares = append(s.spares, spare{s.recv.header, s.recv.n, s.recv.key})
		s.recv.n++
	}
}

func (s *side) room() int { return s.config.Store - len(s.spares) }

// forget drops the oldest spares: the side that follows, and how many went.
func (s *side) forget(n int) (*side, int) {
	gone := min(n, len(s.spares))
	next := *s
	next.spares = s.spares[gone:]
	return &next, gone
}
