package ratchet

import (
	"slices"

	"pawl/api"
	"pawl/chain"
	"pawl/curve"
	"pawl/envelope"
	"pawl/seal"
)

// Seal makes the next message's envelope of a body; Open gives a message's body back. With an error nothing is changed.
func (r *Ratchet) Seal(body, extra, seed []byte) (api.Envelope, api.Errno) {
	if len(extra) > api.MaxExtra || len(body) > api.MaxBox {
		return api.Envelope{}, api.ErrLong
	}
	var out api.Envelope
	why := r.whole(func(next *side) api.Errno {
		message, header, why := next.write(seed)
		if why == api.OK {
			out = next.enclose(message, header, body, extra)
		}
		return why
	})
	return out, why
}

// write goes on to the next message that is sent: its key, and its header.
func (s *side) write(seed []byte) (api.Key, api.Header, api.Errno) {
	if !s.Turn && !s.HasSend {
		return api.Key{}, api.Header{}, api.ErrSilent
	}
	if s.Turn {
		if why := s.answer(seed); why != api.OK {
			return api.Key{}, api.Header{}, why
		}
	}
	header := api.Header{Public: s.Own.Public, Prev: s.Prev, N: s.SendN}
	sending := chain.New(s.Send, s.SendN)
	message, why := sending.Next()
	if why != api.OK {
		return api.Key{}, api.Header{}, why
	}
	s.Send, s.SendN = sending.Key(), sending.N()
	return message, header, api.OK
}

// answer begins a new sending chain with the pair of a seed: the other side's public key is answered by it, and the turn is over.
func (s *side) answer(seed []byte) api.Errno {
	own, why := curve.Pair(seed)
	if why != api.OK {
		return why
	}
	secret, why := curve.Shared(own.Private, s.Peer)
	if why != api.OK {
		return why
	}
	s.Own, s.HasOwn = own, true
	s.Prev, s.SendN = s.SendN, 0
	s.SendHeader = s.NextSend
	s.Root, s.Send, s.NextSend = chain.Root(s.Root, secret)
	s.HasSend, s.Turn = true, false
	return api.OK
}

// enclose seals a header and a body under a message's key. Neither can be too long: a header has one length, and what a body's box answers for is far below the bound if the extra is within its own.
func (s *side) enclose(message api.Key, header api.Header, body, extra []byte) api.Envelope {
	key, nonce := chain.Message(message)
	e := api.Envelope{Version: s.Config.Version, Nonce: nonce}
	e.Header, _ = seal.Seal(s.SendHeader, nonce, s.version(), envelope.PackHeader(header))
	e.Body, _ = seal.Seal(key, nonce, s.bound(e, extra), body)
	return e
}

// version is the one byte that all boxes answer for.
func (s *side) version() []byte { return []byte{byte(s.Config.Version)} }

// bound is what a body's box answers for: all that stands ahead of it in its envelope, and the message's extra.
func (s *side) bound(e api.Envelope, extra []byte) []byte {
	return slices.Concat(s.version(), e.Nonce[:], e.Header, extra)
}
