package ratchet

import (
	"slices"

	"pawl/api"
	"pawl/chain"
	"pawl/curve"
	"pawl/envelope"
	"pawl/seal"
)

func (r *Ratchet) Open(e api.Envelope, extra []byte) ([]byte, api.Work, api.Errno) {
	if why := r.now.admit(e, extra); why != api.OK {
		return nil, api.Work{}, why
	}
	under, header, trials, why := r.now.unseal(e)
	work := api.Work{Trials: trials}
	if why != api.OK {
		return nil, work, why
	}
	var body []byte
	why = r.whole(func(next *side) api.Errno {
		message, steps, why := next.read(under, header)
		if why != api.OK {
			return why
		}
		work.Steps = steps
		body, why = next.disclose(message, e, extra)
		return why
	})
	return body, work, why
}

// admit looks at what can be told of an envelope without any key.
func (s *side) admit(e api.Envelope, extra []byte) api.Errno {
	switch {
	case len(extra) > api.MaxExtra, len(e.Body) > api.MaxBox+api.TagSize:
		return api.ErrLong
	case e.Version != s.Config.Version:
		return api.ErrVersion
	case len(e.Header) != api.HeaderSize+api.TagSize, len(e.Body) < api.TagSize:
		return api.ErrParts
	}
	return api.OK
}

// unseal tries the header keys that are known on an envelope: the first that opens its header, what that says, and how many were tried.
func (s *side) unseal(e api.Envelope) (api.Key, api.Header, int, api.Errno) {
	keys := s.candidates()
	for i, key := range keys {
		b, why := seal.Open(key, e.Nonce, s.version(), e.Header)
		if why != api.OK {
			continue
		}
		header, err := envelope.ParseHeader(b)
		if err != nil { // the key decides, even if what it opens says nothing
			return api.Key{}, api.Header{}, i + 1, api.ErrHeader
		}
		return key, header, i + 1, api.OK
	}
	return api.Key{}, api.Header{}, len(keys), api.ErrHeader
}

// candidates are the header keys that are known, each once, in the order in which they are tried.
func (s *side) candidates() []api.Key {
	keys := s.spares.Headers()
	if s.HasRecv && !slices.Contains(keys, s.RecvHeader) {
		keys = append(keys, s.RecvHeader)
	}
	if !slices.Contains(keys, s.NextRecv) {
		keys = append(keys, s.NextRecv)
	}
	return keys
}

// read goes on to the message of a header that opened under a header key: the message's key, and how many steps of chains that took.
func (s *side) read(under api.Key, header api.Header) (api.Key, int, api.Errno) {
	if message, is := s.spares.Take(under, header.N); is {
		return message, 0, api.OK
	}
	switch {
	case s.HasRecv && under == s.RecvHeader:
		return s.goOn(header.N)
	case under == s.NextRecv:
		return s.turn(header)
	}
	return api.Key{}, 0, api.ErrOld
}

// goOn goes on to a message of the receiving chain.
func (s *side) goOn(n uint32) (api.Key, int, api.Errno) {
	switch {
	case n < s.RecvN:
		return api.Key{}, 0, api.ErrOld
	case n == api.MaxCount:
		return api.Key{}, 0, api.ErrExhausted
	case s.far(n - s.RecvN):
		return api.Key{}, 0, api.ErrSkip
	}
	skipped := gap(s.RecvHeader, s.RecvN, n)
	if why := s.canPut(skipped); why != api.OK {
		return api.Key{}, 0, why
	}
	s.skip(skipped)
	return s.step(), len(skipped) + 1, api.OK
}

// turn finishes the receiving chain, as far as the other side sent in it, and goes on to a message of the new one that a public key begins. All that can be refused is asked ahead of the first step.
func (s *side) turn(header api.Header) (api.Key, int, api.Errno) {
	if !s.HasOwn {
		return api.Key{}, 0, api.ErrState
	}
	end := s.RecvN
	if s.HasRecv {
		end = max(end, header.Prev)
	}
	if s.far(end-s.RecvN) || s.far(header.N) {
		return api.Key{}, 0, api.ErrSkip
	}
	last, first := gap(s.RecvHeader, s.RecvN, end), gap(s.NextRecv, 0, header.N)
	if why := s.canPut(slices.Concat(last, first)); why != api.OK {
		return api.Key{}, 0, why
	}
	secret, why := curve.Shared(s.Own.Private, header.Public)
	if why != api.OK {
		return api.Key{}, 0, why
	}
	s.skip(last)
	s.Peer, s.HasPeer, s.Turn = header.Public, true, true
	s.RecvHeader, s.RecvN, s.HasRecv = s.NextRecv, 0, true
	s.Root, s.Recv, s.NextRecv = chain.Root(s.Root, secret)
	s.skip(first)
	return s.step(), len(last) + len(first) + 1, api.OK
}

// far: so many messages are more than may be skipped.
func (s *side) far(count uint32) bool { return int64(count) > int64(s.Config.Skip) }

// gap is the spares of a chain's messages from one number up to another, without their keys yet.
func gap(header api.Key, from, to uint32) []api.Spare {
	l := make([]api.Spare, 0, to-from)
	for n := from; n < to; n++ {
		l = append(l, api.Spare{Header: header, N: n})
	}
	return l
}

// canPut tells whether spares can be put, for which their keys do not matter.
func (s *side) canPut(l []api.Spare) api.Errno { return s.spares.Clone().Put(l) }

// skip goes along the receiving chain over its next messages, and puts their spares with their keys. They are as many as may be, and can be put.
func (s *side) skip(l []api.Spare) {
	receiving := chain.New(s.Recv, s.RecvN)
	keys, _ := receiving.Skip(s.RecvN+uint32(len(l)), len(l))
	for i, key := range keys {
		l[i].Message = key
	}
	s.spares.Put(l)
	s.Recv, s.RecvN = receiving.Key(), receiving.N()
}

// step goes along the receiving chain over one message: its key. The chain is not at its end.
func (s *side) step() api.Key {
	receiving := chain.New(s.Recv, s.RecvN)
	message, _ := receiving.Next()
	s.Recv, s.RecvN = receiving.Key(), receiving.N()
	return message
}

// disclose opens the body of an envelope under its message's key.
func (s *side) disclose(message api.Key, e api.Envelope, extra []byte) ([]byte, api.Errno) {
	key, nonce := chain.Message(message)
	body, why := seal.Open(key, nonce, s.bound(e, extra), e.Body)
	if why != api.OK {
		return nil, api.ErrBody
	}
	return body, api.OK
}
