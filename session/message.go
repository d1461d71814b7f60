package session

import (
	"errors"

	"pawl/api"
	"pawl/envelope"
	"pawl/ratchet"
)

// Send makes the next message; Receive gives back what one said, and the work (beside an error too). An error is an *api.Wrap; then nothing is changed.
func (s *Session) Send(plain, extra, seed []byte) ([]byte, error) {
	s.lock.Lock()
	defer s.lock.Unlock()
	body, why := envelope.Pad(s.side.State().Config.Version, plain)
	if why != api.OK {
		return nil, wrong(api.PartPadding, why)
	}
	if len(extra) > api.MaxExtra {
		return nil, wrong(api.PartArgs, api.ErrLong)
	}
	e, why := s.side.Seal(body, extra, seed)
	if why != api.OK {
		return nil, wrong(partOf(why), why)
	}
	b, _ := envelope.Pack(e) // nil: the box of a body that was padded has a length that can be
	return b, nil
}

func (s *Session) Receive(b, extra []byte) (api.Heard, error) {
	s.lock.Lock()
	defer s.lock.Unlock()
	if len(extra) > api.MaxExtra {
		return api.Heard{}, wrong(api.PartArgs, api.ErrLong)
	}
	e, err := envelope.Parse(b)
	if err != nil {
		return api.Heard{}, wrong(api.PartEnvelope, err)
	}
	was := s.side.State()
	if e.Version != was.Config.Version {
		return api.Heard{}, wrong(api.PartEnvelope, api.ErrVersion)
	}
	body, work, why := s.side.Open(e, extra)
	if why != api.OK {
		return api.Heard{Work: work}, wrong(partOf(why), why)
	}
	plain, why := envelope.Unpad(e.Version, body)
	if why != api.OK {
		s.goBack(was)
		return api.Heard{Work: work}, wrong(api.PartPadding, why)
	}
	return api.Heard{Plain: plain, Work: work}, nil
}

// goBack undoes what was done since the side had that state: the ratchet takes a body that opens, and does not know that its padding is wrong.
func (s *Session) goBack(was api.State) {
	side, _ := ratchet.From(was) // OK: a side's state is one that can be
	s.side = *side
}

// partOf is the part in which something is wrong that the ratchet refuses. Behind the lengths that were asked ahead of it, it answers ErrSize of the seed alone, and only with the turn.
func partOf(err error) int {
	switch {
	case errors.Is(err, api.ErrSize):
		return api.PartArgs
	case errors.Is(err, api.ErrHeader):
		return api.PartHeader
	case errors.Is(err, api.ErrBody):
		return api.PartBody
	}
	return api.PartRatchet
}
