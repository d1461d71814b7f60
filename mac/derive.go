package mac

import "pawl/api"

// Extract and Expand are HKDF's two halves, Derive both.
func Extract(salt, secret []byte) api.Key { return Sum(salt, secret) }

func Expand(key api.Key, info []byte, n int) ([]byte, api.Errno) {
	if n < 0 {
		return nil, api.ErrArg
	}
	if n > api.MaxExpand {
		return nil, api.ErrLong
	}
	out := make([]byte, n)
	m := New(key[:])
	var last []byte // none stands ahead of the first piece
	for i := 0; i*api.KeySize < n; i++ {
		piece := next(m, last, info, byte(i+1))
		copy(out[i*api.KeySize:], piece[:])
		last = piece[:]
	}
	return out, api.OK
}

func Derive(salt, secret, info []byte, n int) ([]byte, api.Errno) {
	return Expand(Extract(salt, secret), info, n)
}

// next is the piece with a number, behind the last one.
func next(m *Mac, last, info []byte, number byte) api.Key {
	m.Reset()
	m.Write(last)
	m.Write(info)
	m.Write([]byte{number})
	return m.Sum()
}
