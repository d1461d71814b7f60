package content

import (
	"math"
	"slices"

	"pawl/api"
)

// field is one of those that a content can have.
type field int

const (
	theKind field = iota
	theText
	theMarks
	theLat
	theLong
	theNumber
	theKey
)

// of is what stands in that field of a content, as a value of its slot.
func (f field) of(c api.Content) api.Value {
	switch f {
	case theKind:
		return api.Value{Num: uint64(c.Kind)}
	case theText:
		return api.Value{Data: []byte(c.Text)}
	case theMarks:
		return list(c.Marks)
	case theLat:
		return api.Value{Num: math.Float64bits(c.Lat)}
	case theLong:
		return api.Value{Num: math.Float64bits(c.Long)}
	case theNumber:
		return api.Value{Num: c.Number}
	}
	return api.Value{Data: slices.Clone(c.Key[:])}
}

// put lays a value of its slot into that field of a content.
func (f field) put(c *api.Content, v api.Value) {
	switch f {
	case theKind:
		c.Kind = int(v.Num)
	case theText:
		c.Text = string(v.Data)
	case theMarks:
		c.Marks = unlist(v)
	case theLat:
		c.Lat = math.Float64frombits(v.Num)
	case theLong:
		c.Long = math.Float64frombits(v.Num)
	case theNumber:
		c.Number = v.Num
	case theKey:
		copy(c.Key[:], v.Data)
	}
}

// list makes a list's value of marks; unlist reads it.
func list(marks []uint32) api.Value {
	var v api.Value
	for _, m := range marks {
		v.Parts = append(v.Parts, item(uint64(m)))
	}
	return v
}

func unlist(v api.Value) []uint32 {
	var marks []uint32
	for _, p := range v.Parts {
		marks = append(marks, uint32(p.Parts[0].Num))
	}
	return marks
}

// item is a message of one number.
func item(n uint64) api.Value { return api.Value{Parts: []api.Value{{Num: n}}} }

// valueOf is a content as a message of these parts; contentOf reads one.
func valueOf(c api.Content, parts []part) api.Value {
	var v api.Value
	for _, p := range parts {
		v.Parts = append(v.Parts, p.field.of(c))
	}
	return v
}

func contentOf(v api.Value, parts []part) api.Content {
	var c api.Content
	for i, p := range parts {
		p.field.put(&c, v.Parts[i])
	}
	return c
}

// alike holds all fields of two contents against each other, floats by their bits, so that -0 is not 0.
func alike(a, b api.Content) bool {
	return a.Kind == b.Kind && a.Text == b.Text && slices.Equal(a.Marks, b.Marks) &&
		math.Float64bits(a.Lat) == math.Float64bits(b.Lat) && math.Float64bits(a.Long) == math.Float64bits(b.Long) &&
		a.Number == b.Number && a.Key == b.Key
}
