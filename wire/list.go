package wire

import "pawl/api"

// Join puts items into one list of bytes; Split takes them out again.
func Join(items [][]byte) ([]byte, api.Errno) {
	if len(items) > api.MaxItems {
		return nil, api.ErrLong
	}
	size := 0
	for _, item := range items {
		size += sizeOfItem(item)
	}
	if size > api.MaxWire {
		return nil, api.ErrLong
	}
	out := make([]byte, 0, size)
	for _, item := range items {
		out = addItem(out, item)
	}
	return out, api.OK
}

func Split(b []byte) ([][]byte, int, api.Errno) {
	if len(b) > api.MaxWire {
		return nil, 0, api.ErrLong
	}
	var out [][]byte
	for at := 0; at < len(b); {
		if len(out) == api.MaxItems {
			return nil, at, api.ErrLong
		}
		item, end, e := readItem(b, at)
		if e != api.OK {
			return nil, at, e
		}
		out = append(out, item)
		at = end
	}
	return out, 0, api.OK
}

// sizeOfItem is how many bytes addItem adds.
func sizeOfItem(item []byte) int { return Size(uint64(len(item))) + len(item) }

// addItem puts the number of an item's bytes and these behind b.
func addItem(b, item []byte) []byte {
	return append(addNumber(b, uint64(len(item))), item...)
}
