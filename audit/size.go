package audit

import "pawl/api"

// How many bytes the fields of a state have that is laid down (chapter 15): all begin with one byte of number and type.
const (
	keyField   = 2 + api.KeySize // its length has one byte
	flagField  = 2
	countField = 5
)

// size is how many bytes a side has that is laid down.
func (s *side) size() int {
	const chainItem, spareItem = 2*keyField + countField, 2*keyField + countField
	return numberField(s.config.Version) + numberField(s.config.Skip) + numberField(s.config.Store) +
		keyField + // the root
		listField(one(s.own != none), 2*keyField) +
		listField(one(s.peer != none), keyField) +
		flagField +
		listField(one(s.send != chain{}), chainItem) +
		keyField + // the next sending header
		countField + // Prev
		listField(one(s.recv != chain{}), chainItem) +
		keyField + // the next receiving header
		listField(len(s.spares), spareItem)
}

// numberField is how many bytes the field of a number has.
func numberField(n int) int { return 1 + numberSize(n) }

// listField is how many the field of a list has, of so many items of so many bytes: each has a length of one byte ahead.
func listField(items, each int) int {
	all := items * (1 + each)
	return 1 + numberSize(all) + all
}

// numberSize is how many digits of seven bits a number has.
func numberSize(n int) int {
	size := 1
	for n >>= 7; n > 0; n >>= 7 {
		size++
	}
	return size
}

// one is 1 of something that is there, else 0.
func one(is bool) int {
	if is {
		return 1
	}
	return 0
}
