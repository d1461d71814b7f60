package envelope

import (
	"bytes"

	"pawl/api"
	"pawl/wire"
)

// countSize is how many bytes the number has with which a body begins.
const countSize = 4

// Bucket is the padded size of a plain text of n bytes; Length the size of an envelope that holds it.
func Bucket(version, n int) (int, api.Errno) {
	r, known := rulesOf(uint64(version))
	switch {
	case !known:
		return 0, api.ErrVersion
	case n < 0:
		return 0, api.ErrArg
	case n > api.MaxPlain:
		return 0, api.ErrLong
	}
	return r.bucketOf(n), api.OK
}

func Length(version, n int) (int, api.Errno) {
	bucket, e := Bucket(version, n)
	if e != api.OK {
		return 0, e
	}
	box := bucket + api.TagSize
	return bodyAt + 1 + wire.Size(uint64(box)) + box, api.OK // the 1 is the body's number and type
}

// Pad pads a plain text; Unpad gives it back.
func Pad(version int, plain []byte) ([]byte, api.Errno) {
	size, e := Bucket(version, len(plain))
	if e != api.OK {
		return nil, e
	}
	body := make([]byte, size)
	for i := range countSize {
		body[i] = byte(len(plain) >> (8 * i))
	}
	copy(body[countSize:], plain)
	return body, api.OK
}

func Unpad(version int, b []byte) ([]byte, api.Errno) {
	r, known := rulesOf(uint64(version))
	if !known {
		return nil, api.ErrVersion
	}
	n, ok := countIn(b)
	if !ok || r.bucketOf(n) != len(b) {
		return nil, api.ErrPadding
	}
	plain, behind := b[countSize:countSize+n], b[countSize+n:]
	if !allZero(behind) {
		return nil, api.ErrPadding
	}
	return bytes.Clone(plain), api.OK
}

// countIn reads the number with which a body begins; false, if it is cut, or is not that of a plain text's bytes.
func countIn(b []byte) (int, bool) {
	if len(b) < countSize {
		return 0, false
	}
	n := uint32(0)
	for i := range countSize {
		n |= uint32(b[i]) << (8 * i)
	}
	return int(n), n <= api.MaxPlain
}

func allZero(b []byte) bool {
	for _, x := range b {
		if x != 0 {
			return false
		}
	}
	return true
}
