package wire

import (
	"bytes"

	"pawl/api"
)

// walk goes through a message's fields, once; where it meets a fault, place and why tell of it.
type walk struct {
	b     []byte
	place int
	why   api.Errno
}

// fields hands on each field that stands whole, with the place at which it begins, up to the first fault.
func (w *walk) fields(yield func(int, api.Field) bool) {
	at, last := 0, 0
	for count := 0; at < len(w.b); count++ {
		f, behind, e := readHead(w.b, at, last, count)
		if e != api.OK {
			w.place, w.why = at, e
			return
		}
		end := 0
		f.Num, f.Data, end, e = readValue(w.b, behind, f.Type)
		if e != api.OK {
			w.place, w.why = behind, e
			return
		}
		if !yield(at, f) {
			return
		}
		at, last = end, f.No
	}
}

// readHead reads the number with which a field begins, behind count others, the last of them of number last.
func readHead(b []byte, at, last, count int) (api.Field, int, api.Errno) {
	n, end, e := Number(b, at)
	switch {
	case e != api.OK:
		return api.Field{}, 0, e
	case count == api.MaxFields:
		return api.Field{}, 0, api.ErrLong
	case n>>typeBits > api.MaxField: // asked ahead of the turning into an int, which may be too small for it
		return api.Field{}, 0, api.ErrOrder
	}
	f := api.Field{No: int(n >> typeBits), Type: int(n % (1 << typeBits))}
	if e := checkHead(f, last); e != api.OK {
		return api.Field{}, 0, e
	}
	return f, end, api.OK
}

// readValue reads what stands behind a field's first number, and where that ends.
func readValue(b []byte, at, wireType int) (num uint64, data []byte, end int, e api.Errno) {
	switch wireType {
	case api.WireFixed64:
		num, end, e = readFixed(b, at, 8)
	case api.WireFixed32:
		num, end, e = readFixed(b, at, 4)
	case api.WireBytes:
		data, end, e = readItem(b, at)
	default:
		num, end, e = Number(b, at)
	}
	return num, data, end, e
}

// readFixed reads a number of so many bytes, the lowest first, and where it ends.
func readFixed(b []byte, at, count int) (uint64, int, api.Errno) {
	if len(b)-at < count {
		return 0, 0, api.ErrCut
	}
	n := uint64(0)
	for i := range count {
		n |= uint64(b[at+i]) << (8 * i)
	}
	return n, at + count, api.OK
}

// readItem reads a number of bytes and these, as new memory, and where they end.
func readItem(b []byte, at int) ([]byte, int, api.Errno) {
	n, from, e := Number(b, at)
	if e != api.OK {
		return nil, 0, e
	}
	if n > uint64(len(b)-from) {
		return nil, 0, api.ErrCut
	}
	end := from + int(n)
	return bytes.Clone(b[from:end]), end, api.OK
}
