package group

import (
	"errors"

	"pawl/api"
	"pawl/chain"
	"pawl/names"
	"pawl/spare"
)

// The numbers of the fields of a group's bytes.
const (
	versionNo  = 1
	skipNo     = 2
	storeNo    = 3
	groupNo    = 4
	meNo       = 5
	ownGenNo   = 6
	ownKeyNo   = 7
	ownCountNo = 8
	seedNo     = 9
	othersNo   = 10
	sparesNo   = 11
)

// Export is the bytes of all that is kept; Import goes on from them. An error is an *api.Wrap.
func (g *Group) Export() []byte {
	return encoded(stateSlots(), []api.Value{
		{Num: uint64(g.config.Version)},
		{Num: uint64(g.config.Skip)},
		{Num: uint64(g.config.Store)},
		keyValue(g.id),
		text(g.me),
		number(g.own.gen),
		keyValue(g.own.line.Key()),
		number(g.own.line.N()),
		keyValue(g.own.seed),
		listOf(g.others, memberParts),
		listOf(g.spares.List(), spareParts),
	})
}

func Import(b []byte) (*Group, error) {
	parts, err := decoded(stateSlots(), b, api.PartState)
	if err != nil {
		return nil, err
	}
	g, why := groupOf(parts)
	if errors.Is(why, api.ErrExport) {
		return nil, wrong(api.PartState, api.ErrExport)
	}
	return g, nil
}

// groupOf is the group that the parts tell; ErrExport, if there can be none.
func groupOf(parts []api.Value) (*Group, api.Errno) {
	part := func(no int) api.Value { return parts[no-1] }
	g := &Group{
		id:     keyIn(part(groupNo)),
		config: api.Config{Version: int(part(versionNo).Num), Skip: int(part(skipNo).Num), Store: int(part(storeNo).Num)},
		me:     textIn(part(meNo)),
		own:    voice{countIn(part(ownGenNo)), *chain.New(keyIn(part(ownKeyNo)), countIn(part(ownCountNo))), keyIn(part(seedNo))},
		others: itemsOf(part(othersNo), memberOf),
	}
	spares, why := spare.From(g.config.Store, itemsOf(part(sparesNo), spareOf))
	if why != api.OK || !g.peopled() || !g.covers(spares.Headers()) {
		return nil, api.ErrExport
	}
	g.spares = *spares
	return g, api.OK
}

// peopled: the names and the generations of their cards are such as can be.
func (g *Group) peopled() bool {
	last := ""
	for _, m := range g.others {
		if !names.Is(m.name) || m.name == g.me || m.name <= last {
			return false
		}
		if len(m.cards) == 2 && m.cards[1].gen >= m.cards[0].gen {
			return false
		}
		last = m.name
	}
	return names.Is(g.me)
}

// covers: there is a card for each of these header keys.
func (g *Group) covers(headers []api.Key) bool {
	for _, header := range headers {
		if !g.kept(header) {
			return false
		}
	}
	return true
}

// stateSlots is the schema of groups.
func stateSlots() []api.Slot {
	return []api.Slot{
		{No: versionNo, Kind: api.KNum, Least: 1, Most: 2},
		{No: skipNo, Kind: api.KNum, Most: api.MaxSkip},
		{No: storeNo, Kind: api.KNum, Most: api.MaxStore},
		keySlot(groupNo),
		nameSlot(meNo),
		countSlot(ownGenNo),
		keySlot(ownKeyNo),
		countSlot(ownCountNo),
		keySlot(seedNo),
		listSlot(othersNo, 0, api.MaxMembers-1,
			nameSlot(1),
			listSlot(2, 1, 2, countSlot(1), keySlot(2), keySlot(3), countSlot(4)),
		),
		listSlot(sparesNo, 0, api.MaxStore, keySlot(1), countSlot(2), keySlot(3)),
	}
}

func listSlot(no int, least, most uint64, sub ...api.Slot) api.Slot {
	return api.Slot{No: no, Kind: api.KList, Least: least, Most: most, Sub: sub}
}

// listOf is a list of messages made of anything, by what gives the parts of one; itemsOf reads it, by what is made of one's parts.
func listOf[T any](l []T, parts func(T) []api.Value) api.Value {
	var items []api.Value
	for _, one := range l {
		items = append(items, api.Value{Parts: parts(one)})
	}
	return api.Value{Parts: items}
}

func itemsOf[T any](list api.Value, made func([]api.Value) T) []T {
	var l []T
	for _, item := range list.Parts {
		l = append(l, made(item.Parts))
	}
	return l
}

func memberParts(m member) []api.Value {
	return []api.Value{text(m.name), listOf(m.cards, cardParts)}
}

func memberOf(parts []api.Value) member {
	return member{textIn(parts[0]), itemsOf(parts[1], cardOf)}
}

func cardParts(c card) []api.Value {
	return []api.Value{number(c.gen), keyValue(c.public), keyValue(c.line.Key()), number(c.line.N())}
}

func cardOf(parts []api.Value) card {
	return card{countIn(parts[0]), keyIn(parts[1]), *chain.New(keyIn(parts[2]), countIn(parts[3]))}
}

func spareParts(s api.Spare) []api.Value {
	return []api.Value{keyValue(s.Header), number(s.N), keyValue(s.Message)}
}

func spareOf(parts []api.Value) api.Spare {
	return api.Spare{Header: keyIn(parts[0]), N: countIn(parts[1]), Message: keyIn(parts[2])}
}
