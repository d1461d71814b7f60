package schema

import "pawl/api"

// outline is what a schema comes to: ErrSchema, if it can't be, ErrLong, if its messages can be too long.
func outline(s []api.Slot) (message, api.Errno) {
	o := outliner{left: api.MaxAll}
	m, ok := o.message(s, 1)
	if !ok {
		return nil, api.ErrSchema
	}
	if _, most := m.span(); most > api.MaxWire {
		return nil, api.ErrLong
	}
	return m, api.OK
}

// outliner goes through a schema and those within it; left is how many slots there may still be. They run out even if a schema lies within itself.
type outliner struct{ left int }

// message outlines a schema that so many stand around, it itself counted; false, if it can't be.
func (o *outliner) message(s []api.Slot, deep int) (message, bool) {
	if deep > api.MaxDeep || len(s) > api.MaxSlots || len(s) > o.left {
		return nil, false
	}
	o.left -= len(s)
	var m message
	last := 0
	for _, slot := range s {
		if slot.No <= last || slot.No > api.MaxField {
			return nil, false
		}
		last = slot.No
		shape, ok := o.shape(slot, deep)
		if !ok {
			return nil, false
		}
		m = append(m, place{slot.No, shape})
	}
	return m, true
}

// shape is what the slot of a schema comes to that lies so deep; false, if it can't be.
func (o *outliner) shape(s api.Slot, deep int) (shape, bool) {
	if s.Least > s.Most {
		return nil, false
	}
	if s.Kind == api.KSub || s.Kind == api.KList {
		return o.nested(s, deep)
	}
	if len(s.Sub) > 0 {
		return nil, false
	}
	switch s.Kind {
	case api.KNum:
		return numbers{api.WireNumber, s.Least, s.Most}, true
	case api.KFixed32:
		return numbers{api.WireFixed32, s.Least, s.Most}, s.Most <= 1<<32-1
	case api.KFixed64:
		return numbers{api.WireFixed64, s.Least, s.Most}, true
	case api.KFlag:
		return numbers{api.WireNumber, 0, 1}, s.Most == 0
	case api.KBytes, api.KText:
		return octets{s.Least, s.Most, s.Kind == api.KText}, s.Most <= api.MaxWire
	case api.KFloat:
		return floats{float64(s.Most)}, s.Least == 0 && s.Most <= 1<<53
	}
	return nil, false
}

// nested is the shape of a slot that has a schema of its own.
func (o *outliner) nested(s api.Slot, deep int) (shape, bool) {
	sub, ok := o.message(s.Sub, deep+1)
	if s.Kind == api.KSub {
		return sub, ok && s.Most == 0
	}
	return lists{s.Least, s.Most, sub}, ok && s.Most <= api.MaxItems
}
