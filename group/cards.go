package group

import (
	"slices"

	"pawl/api"
	"pawl/chain"
	"pawl/names"
	"pawl/sign"
)

// cardMark stands ahead of what is signed of a card, so that the signature serves for nothing else.
const cardMark = "pawl card"

// Card is what the others must learn, to read what one sends from now on; Learn takes another one's. An error is an *api.Wrap.
func (g *Group) Card() []byte {
	public, _ := sign.Public(g.own.seed[:]) // OK: it has a seed's length
	return signed(cardMark, cardSlots(), append(g.sender(), keyValue(g.own.line.Key()), number(g.own.line.N()), keyValue(public)), g.own.seed)
}

func (g *Group) Learn(b []byte) error {
	parts, err := decoded(cardSlots(), b, api.PartEnvelope)
	if err != nil {
		return err
	}
	name := textIn(parts[nameNo-1])
	came := card{countIn(parts[genNo-1]), keyIn(parts[publicNo-1]), *chain.New(keyIn(parts[keyNo-1]), countIn(parts[cardCountNo-1]))}
	switch {
	case keyIn(parts[idNo-1]) != g.id:
		return wrong(api.PartArgs, api.ErrForeign)
	case !names.Is(name):
		return wrong(api.PartArgs, api.ErrArg)
	case name == g.me:
		return wrong(api.PartArgs, api.ErrSelf)
	case !holds(cardMark, cardSlots(), parts, came.public):
		return wrong(api.PartArgs, api.ErrCard)
	}
	if why := g.take(name, came); why != api.OK {
		return wrong(api.PartRatchet, why)
	}
	return nil
}

// take makes a card the current one of its member, and what was so the elder one.
func (g *Group) take(name string, came card) api.Errno {
	at, known := g.find(name)
	switch {
	case known && g.others[at].cards[0].gen >= came.gen:
		return api.ErrElder
	case !known && 1+len(g.others) >= api.MaxMembers:
		return api.ErrFull
	case !known:
		g.others = slices.Insert(g.others, at, member{name, []card{came}})
		return api.OK
	}
	g.others[at].cards = []card{came, g.others[at].cards[0]}
	g.tidy()
	return api.OK
}
