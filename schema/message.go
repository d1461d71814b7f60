package schema

import (
	"pawl/api"
	"pawl/wire"
)

// check gives up with the first that is wrong in a message that lies so deep.
func (l slots) check(v api.Value, deep int) {
	if v.Num != 0 || len(v.Data) > 0 {
		giveUp(deep, 0, api.ErrForm)
	}
	if len(v.Parts) != len(l) {
		giveUp(deep, 0, api.ErrSlots)
	}
	for i, s := range l {
		s.check(v.Parts[i], deep)
	}
}

// encode makes the bytes of a message that was checked.
func (l slots) encode(v api.Value) []byte {
	var fields []api.Field
	for i, s := range l {
		fields = append(fields, s.write(v.Parts[i]))
	}
	b, _ := wire.Encode(fields) // OK: a schema that can be has rising numbers and no message that is too long
	return b
}

// join makes a list's bytes of messages that were checked.
func (l slots) join(items []api.Value) []byte {
	var all [][]byte
	for _, v := range items {
		all = append(all, l.encode(v))
	}
	b, _ := wire.Join(all) // OK, as in encode
	return b
}

// decode reads the message whose bytes are b, which begin at the place from of all that is read, or gives up.
func (l slots) decode(b []byte, from int) api.Value {
	fields, place, e := wire.Decode(b)
	if e != api.OK {
		giveUp(0, from+place, e)
	}
	var parts []api.Value
	at := from
	for i, s := range l {
		if i == len(fields) {
			giveUp(0, at, api.ErrSlots)
		}
		parts = append(parts, s.decode(fields[i], at))
		at = endOf(fields[i], at)
	}
	if len(fields) > len(l) {
		giveUp(0, at, api.ErrSlots)
	}
	return api.Value{Parts: parts}
}

// decode reads the value that a field holds which begins at that place, or gives up.
func (s slot) decode(f api.Field, at int) api.Value {
	if f.No != s.no {
		giveUp(0, at, api.ErrSlots)
	}
	if f.Type != s.wireType {
		giveUp(0, at, api.ErrKind)
	}
	return s.read(f, at)
}

// decodeAll reads the items of a list whose bytes begin at that place, or gives up.
func (l slots) decodeAll(items [][]byte, from int) api.Value {
	var parts []api.Value
	for _, b := range items {
		from += wire.Size(uint64(len(b)))
		parts = append(parts, l.decode(b, from))
		from += len(b)
	}
	return api.Value{Parts: parts}
}

// endOf is the place behind a field that begins at that place: since all has one form, its value tells its length.
func endOf(f api.Field, at int) int {
	behind := at + wire.Size(headOf(f.No))
	switch f.Type {
	case api.WireFixed32:
		return behind + 4
	case api.WireFixed64:
		return behind + 8
	case api.WireBytes:
		return behind + wire.Size(uint64(len(f.Data))) + len(f.Data)
	}
	return behind + wire.Size(f.Num)
}

// dataOf is the place of the bytes that a field holds which begins at that place.
func dataOf(f api.Field, at int) int { return endOf(f, at) - len(f.Data) }
