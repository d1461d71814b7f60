package group

import (
	"slices"

	"pawl/api"
	"pawl/chain"
	"pawl/envelope"
	"pawl/seal"
)

// saidMark stands ahead of what is signed of a message.
const saidMark = "pawl said"

// Send makes the next message; Receive gives back what one said. An error is an *api.Wrap; then nothing is changed.
func (g *Group) Send(plain, extra []byte) ([]byte, error) {
	body, why := envelope.Pad(g.config.Version, plain)
	if why != api.OK {
		return nil, wrong(api.PartPadding, why)
	}
	if len(extra) > api.MaxExtra {
		return nil, wrong(api.PartArgs, api.ErrLong)
	}
	n := g.own.line.N()
	message, why := g.own.line.Next()
	if why != api.OK {
		return nil, wrong(api.PartRatchet, why)
	}
	parts := append(g.sender(), number(n))
	key, nonce := chain.Message(message)
	box, _ := seal.Seal(key, nonce, bound(parts, extra), body) // OK: a body and what its box answers for are below the bound
	return signed(saidMark, messageSlots(), append(parts, api.Value{Data: box}), g.own.seed), nil
}

func (g *Group) Receive(b, extra []byte) (api.Said, error) {
	if len(extra) > api.MaxExtra {
		return api.Said{}, wrong(api.PartArgs, api.ErrLong)
	}
	parts, err := decoded(messageSlots(), b, api.PartEnvelope)
	if err != nil {
		return api.Said{}, err
	}
	from, err := g.speaker(parts)
	if err != nil {
		return api.Said{}, err
	}
	n := countIn(parts[countNo-1])
	message, accept, why := g.reach(from, n)
	if why != api.OK {
		return api.Said{}, wrong(api.PartRatchet, why)
	}
	plain, err := g.disclose(message, parts, extra)
	if err != nil {
		return api.Said{}, err
	}
	accept()
	return api.Said{Member: textIn(parts[nameNo-1]), Gen: from.gen, N: n, Plain: plain}, nil
}

// speaker is the card of who says a message, and signed it.
func (g *Group) speaker(parts []api.Value) (*card, error) {
	name := textIn(parts[nameNo-1])
	switch {
	case keyIn(parts[idNo-1]) != g.id:
		return nil, wrong(api.PartArgs, api.ErrForeign)
	case name == g.me:
		return nil, wrong(api.PartArgs, api.ErrSelf)
	}
	from := g.card(name, countIn(parts[genNo-1]))
	if from == nil {
		return nil, wrong(api.PartRatchet, api.ErrMember)
	}
	if !holds(saidMark, messageSlots(), parts, from.public) {
		return nil, wrong(api.PartHeader, api.ErrSignature)
	}
	return from, nil
}

// card is the one of a name and a generation; nil, if none that is kept is so.
func (g *Group) card(name string, gen uint32) *card {
	at, known := g.find(name)
	if !known {
		return nil
	}
	cards := g.others[at].cards
	for i := range cards {
		if cards[i].gen == gen {
			return &cards[i]
		}
	}
	return nil
}

// reach is the key of a card's message, and what is left to do if that opens it: until then nothing is changed.
func (g *Group) reach(from *card, n uint32) (api.Key, func(), api.Errno) {
	if message, is := g.spares.Find(from.public, n); is {
		return message, func() { g.spares.Take(from.public, n) }, api.OK
	}
	switch {
	case n < from.line.N():
		return api.Key{}, nil, api.ErrOld
	case n == api.MaxCount:
		return api.Key{}, nil, api.ErrExhausted
	}
	line, spares := from.line, g.spares.Clone()
	keys, why := line.Skip(n, g.config.Skip)
	if why != api.OK {
		return api.Key{}, nil, why
	}
	if why := spares.Put(skipped(from, keys)); why != api.OK {
		return api.Key{}, nil, why
	}
	message, _ := line.Next() // OK: it is not at its end
	return message, func() { from.line, g.spares = line, *spares }, api.OK
}

// skipped is the spares of a card's next messages, whose keys are these.
func skipped(from *card, keys []api.Key) []api.Spare {
	var l []api.Spare
	for i, key := range keys {
		l = append(l, api.Spare{Header: from.public, N: from.line.N() + uint32(i), Message: key})
	}
	return l
}

// disclose opens the box of a message, and takes the padding off.
func (g *Group) disclose(message api.Key, parts []api.Value, extra []byte) ([]byte, error) {
	key, nonce := chain.Message(message)
	body, why := seal.Open(key, nonce, bound(parts, extra), parts[boxNo-1].Data)
	if why != api.OK {
		return nil, wrong(api.PartBody, api.ErrBody)
	}
	plain, why := envelope.Unpad(g.config.Version, body)
	if why != api.OK {
		return nil, wrong(api.PartPadding, why)
	}
	return plain, nil
}

// bound is what a message's box answers for: its head, and the extra that is handed in.
func bound(parts []api.Value, extra []byte) []byte {
	return slices.Concat(encoded(messageSlots()[:countNo], parts[:countNo]), extra)
}
