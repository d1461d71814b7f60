package content

import (
	"pawl/api"
	"pawl/schema"
)

// kind is what a content is. It has all 64 bits, so that no number that is read from bytes becomes another one.
type kind uint64

// The kinds, numbered as api numbers them.
const (
	aText kind = 1 + iota
	aReceipt
	aPlace
	aReact
	aTimer
	aFile
)

// Bounds that api does not name.
const (
	mostLat     = 90
	mostLong    = 180
	mostLabel   = 200 // bytes of a place's text
	mostReact   = 64
	mostSeconds = 31536000
	mostName    = 255
	mostFile    = 1 << 40
)

// part is one of a kind's fields, and the slot in which it stands.
type part struct {
	field field
	slot  api.Slot
}

// partsOf is a kind's fields in the order of its bytes, which is that of its line too; nil, if it is none of the kinds.
func partsOf(k kind) []part {
	switch k {
	case aText:
		return numbered(k, textPart(0, api.MaxText))
	case aReceipt:
		return numbered(k, numberPart(1, 2), marksPart(1, api.MaxMarks))
	case aPlace:
		return numbered(k, floatPart(theLat, mostLat), floatPart(theLong, mostLong), textPart(0, mostLabel))
	case aReact:
		return numbered(k, numberPart(0, api.MaxCount), textPart(1, mostReact))
	case aTimer:
		return numbered(k, numberPart(0, mostSeconds))
	case aFile:
		return numbered(k, textPart(1, mostName), numberPart(0, mostFile), keyPart())
	}
	return nil
}

// numbered is a kind's parts with the numbers of their slots; ahead of them stands the kind itself.
func numbered(k kind, others ...part) []part {
	first := part{theKind, api.Slot{Kind: api.KNum, Least: uint64(k), Most: uint64(k)}}
	out := append([]part{first}, others...)
	for i := range out {
		out[i].slot.No = i + 1
	}
	return out
}

func textPart(least, most uint64) part {
	return part{theText, api.Slot{Kind: api.KText, Least: least, Most: most}}
}

func numberPart(least, most uint64) part {
	return part{theNumber, api.Slot{Kind: api.KNum, Least: least, Most: most}}
}

func marksPart(least, most uint64) part {
	mark := []api.Slot{{No: 1, Kind: api.KNum, Most: 1<<32 - 1}}
	return part{theMarks, api.Slot{Kind: api.KList, Least: least, Most: most, Sub: mark}}
}

func floatPart(f field, most uint64) part {
	return part{f, api.Slot{Kind: api.KFloat, Most: most}}
}

func keyPart() part {
	return part{theKey, api.Slot{Kind: api.KBytes, Least: api.KeySize, Most: api.KeySize}}
}

// codecOf makes the schema of a kind's parts ready.
func codecOf(parts []part) *schema.Codec {
	var slots []api.Slot
	for _, p := range parts {
		slots = append(slots, p.slot)
	}
	c, _ := schema.Compile(slots) // OK: they are those of partsOf
	return c
}
