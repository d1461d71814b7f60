package schema

import (
	"pawl/api"
	"pawl/wire"
)

// beyond stands for every number of bytes that a message may not have: with lists within lists it would else grow out of a word's range.
const beyond = api.MaxWire + 1

// shape is what the values of a slot are like.
type shape interface {
	// size is how many bytes the shortest and the longest value have, behind the number that their field begins with.
	size() (least, most uint64)
}

// numbers are from least to most, each a field of that wire type.
type numbers struct {
	wireType    int
	least, most uint64
}

// floats are from -most to most.
type floats struct{ most float64 }

// octets are least to most bytes, of a text in UTF-8.
type octets struct {
	least, most uint64
	text        bool
}

// lists are of least to most messages.
type lists struct {
	least, most uint64
	item        message
}

// message is a schema that can be, with the shapes of its slots.
type message []place

type place struct {
	no    int
	shape shape
}

func (n numbers) size() (uint64, uint64) {
	switch n.wireType {
	case api.WireFixed32:
		return 4, 4
	case api.WireFixed64:
		return 8, 8
	}
	return sizeOf(n.least), sizeOf(n.most)
}

func (f floats) size() (uint64, uint64) { return 8, 8 }

func (o octets) size() (uint64, uint64) { return counted(o.least), counted(o.most) }

func (l lists) size() (uint64, uint64) {
	least, most := l.item.size()
	return counted(l.least * least), counted(l.most * most)
}

// size is of the message as a part of another one, or as an item: behind the number of its bytes.
func (m message) size() (uint64, uint64) {
	least, most := m.span()
	return counted(least), counted(most)
}

// span is how many bytes the shortest and the longest message have.
func (m message) span() (least, most uint64) {
	for _, p := range m {
		head := sizeOf(headOf(p.no))
		shortest, longest := p.shape.size()
		least += head + shortest
		most += head + longest
	}
	return min(least, beyond), min(most, beyond)
}

// headOf is the number with which a field begins, but for its wire type, which makes it no longer.
func headOf(no int) uint64 { return 8 * uint64(no) }

// sizeOf is how many bytes the number n has.
func sizeOf(n uint64) uint64 { return uint64(wire.Size(n)) }

// counted is how many bytes n bytes have, with their number ahead of them.
func counted(n uint64) uint64 { return sizeOf(n) + n }
