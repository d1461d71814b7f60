package trust

import (
	"pawl/api"
	"pawl/schema"
)

// The numbers of the fields of a book's bytes, and of those of an event in it.
const (
	ownNo    = 1
	eventsNo = 2

	kindNo = 1
	nameNo = 2
	keyNo  = 3
)

// eventsAt is the place where the field of the events begins: behind one's own key, with two more bytes.
const eventsAt = 2 + api.KeySize

// Export is a book's bytes; Import reads them. An error is an *api.Fault.
func (b *Book) Export() []byte {
	var events []api.Value
	for _, e := range b.events {
		events = append(events, api.Value{Parts: []api.Value{
			{Num: uint64(e.Kind)},
			{Data: []byte(e.Name)},
			{Data: e.Key[:]},
		}})
	}
	out, _ := codec().Encode(api.Value{Parts: []api.Value{ // nil: a book's events are such as can be
		{Data: b.own[:]},
		{Parts: events},
	}})
	return out
}

func Import(b []byte) (*Book, error) {
	v, err := codec().Decode(b)
	if err != nil {
		return nil, err
	}
	var events []api.Event
	for _, e := range v.Parts[1].Parts {
		events = append(events, api.Event{
			Kind: int(e.Parts[0].Num),
			Name: string(e.Parts[1].Data),
			Key:  api.Key(e.Parts[2].Data),
		})
	}
	book, why := Replay(api.Key(v.Parts[0].Data), events)
	if why != api.OK {
		return nil, &api.Fault{At: eventsAt, Why: api.ErrEvent}
	}
	return book, nil
}

// codec makes the schema of books ready.
func codec() *schema.Codec {
	c, _ := schema.Compile([]api.Slot{ // OK: it can be
		keySlot(ownNo),
		{No: eventsNo, Kind: api.KList, Most: api.MaxEvents, Sub: []api.Slot{
			{No: kindNo, Kind: api.KNum, Least: api.EvSeen, Most: api.EvForgotten},
			{No: nameNo, Kind: api.KText, Least: 1, Most: api.MaxName},
			keySlot(keyNo),
		}},
	})
	return c
}

func keySlot(no int) api.Slot {
	return api.Slot{No: no, Kind: api.KBytes, Least: api.KeySize, Most: api.KeySize}
}
