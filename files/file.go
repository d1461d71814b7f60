package files

import (
	"pawl/api"
	"pawl/tree"
)

// file is the bytes of a sealed file, which are looked at where they were handed in, and their layout.
type file struct {
	layout
	sealed []byte
}

func fileOf(sealed []byte) (file, api.Errno) {
	l, why := layoutOf(len(sealed))
	if why != api.OK {
		return file{}, why
	}
	return file{l, sealed}, api.OK
}

// box is a sealed chunk, as a piece of what was handed in.
func (f file) box(i int) []byte {
	from, to := f.place(i)
	return f.sealed[from:to]
}

// leaves is the chunks as the digest sees them.
func (f file) leaves() []api.Key {
	var l []api.Key
	for i := range f.chunks {
		l = append(l, tree.Leaf(f.box(i)))
	}
	return l
}

// open is what the chunks from one on hold, up to another one, if all of them open.
func (f file) open(key api.Key, from, to int) ([]byte, api.Errno) {
	var out []byte
	for i := range to - from {
		b, why := f.openBox(key, from+i, f.box(from+i))
		if why != api.OK {
			return nil, why
		}
		out = append(out, b...)
	}
	return out, api.OK
}
