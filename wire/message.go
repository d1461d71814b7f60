package wire

import (
	"bytes"
	"iter"

	"pawl/api"
)

// typeBits is how many bits of a field's first number tell its type.
const typeBits = 3

// Encode makes a message of its fields; Decode reads one (with an error its place).
func Encode(l []api.Field) ([]byte, api.Errno) {
	if len(l) > api.MaxFields {
		return nil, api.ErrLong
	}
	size, last := 0, 0
	for _, f := range l {
		if e := checkField(f, last); e != api.OK {
			return nil, e
		}
		size += sizeOfField(f)
		last = f.No
	}
	if size > api.MaxWire {
		return nil, api.ErrLong
	}
	out := make([]byte, 0, size)
	for _, f := range l {
		out = addField(out, f)
	}
	return out, api.OK
}

func Decode(b []byte) ([]api.Field, int, api.Errno) {
	if len(b) > api.MaxWire {
		return nil, 0, api.ErrLong
	}
	var out []api.Field
	w := walk{b: b}
	for _, f := range w.fields {
		out = append(out, f)
	}
	if w.why != api.OK {
		return nil, w.place, w.why
	}
	return out, 0, api.OK
}

// Fields goes through a message's fields as they come, up to the first fault: each one's place, and it.
func Fields(b []byte) iter.Seq2[int, api.Field] {
	return func(yield func(int, api.Field) bool) {
		if len(b) > api.MaxWire {
			return
		}
		// A copy, since whoever goes through may change b between two fields.
		w := walk{b: bytes.Clone(b)}
		w.fields(yield)
	}
}

// checkField tells what is wrong with a field behind the one of number last.
func checkField(f api.Field, last int) api.Errno {
	if e := checkHead(f, last); e != api.OK {
		return e
	}
	isBytes := f.Type == api.WireBytes
	switch {
	case !isBytes && len(f.Data) > 0, isBytes && f.Num > 0:
		return api.ErrArg
	case f.Type == api.WireFixed32 && f.Num > 1<<32-1:
		return api.ErrArg
	}
	return api.OK
}

// checkHead tells what is wrong with a field's number and type, behind the field of number last (0, if there is none: so every number is above 0).
func checkHead(f api.Field, last int) api.Errno {
	if f.No <= last || f.No > api.MaxField {
		return api.ErrOrder
	}
	switch f.Type {
	case api.WireNumber, api.WireFixed64, api.WireBytes, api.WireFixed32:
		return api.OK
	}
	return api.ErrType
}

// headOf is the number with which a field begins.
func headOf(f api.Field) uint64 { return uint64(f.No)<<typeBits | uint64(f.Type) }

// sizeOfField is how many bytes addField adds; of a field that was checked.
func sizeOfField(f api.Field) int {
	n := Size(headOf(f))
	switch f.Type {
	case api.WireFixed64:
		return n + 8
	case api.WireFixed32:
		return n + 4
	case api.WireBytes:
		return n + sizeOfItem(f.Data)
	}
	return n + Size(f.Num)
}

// addField puts a field that was checked behind b.
func addField(b []byte, f api.Field) []byte {
	b = addNumber(b, headOf(f))
	switch f.Type {
	case api.WireFixed64:
		return addFixed(b, f.Num, 8)
	case api.WireFixed32:
		return addFixed(b, f.Num, 4)
	case api.WireBytes:
		return addItem(b, f.Data)
	}
	return addNumber(b, f.Num)
}

// addFixed puts a number's lowest bytes behind b, the lowest first.
func addFixed(b []byte, n uint64, count int) []byte {
	for i := range count {
		b = append(b, byte(n>>(8*i)))
	}
	return b
}
