package edwards

import (
	"math/bits"

	"pawl/api"
)

// A number modulo the order is kept in four words, the lowest first.
const (
	count = 4
	width = 64
	spare = 4 // the order is 2^252 and some more: so many bits of the highest word are above that
)

type words [count]uint64

// order is L.
var order = words{0x5812631a5cf5d3ed, 0x14def9dea2f79cd6, 0, 0x1000000000000000}

// Scalar is a number modulo the order of Base; the zero Scalar is 0.
//
// What it keeps is below the order, whatever calls made it: two Scalars are the same number just if they are the same value.
type Scalar struct{ value words }

// Reduce makes one of any bytes; Whole of bytes that say a number below the order.
func Reduce(b []byte) Scalar { return Scalar{words{1}}.by(b) }

func Whole(b api.Key) (Scalar, api.Errno) {
	var w words
	for i := range b {
		w[i/8] |= uint64(b[i]) << (i % 8 * 8)
	}
	if _, less := w.minus(order); less == 0 {
		return Scalar{}, api.ErrScalar
	}
	return Scalar{w}, api.OK
}

// Bytes is a number's one form.
func (a Scalar) Bytes() api.Key {
	var b api.Key
	for i := range b {
		b[i] = byte(a.value[i/8] >> (i % 8 * 8))
	}
	return b
}

// The sum, the difference, the product, the opposite.
func (a Scalar) Add(b Scalar) Scalar { return a.Sub(b.Neg()) }
func (a Scalar) Sub(b Scalar) Scalar { return within(a.value.minus(b.value)) }

func (a Scalar) Mul(b Scalar) Scalar {
	k := b.Bytes()
	return a.by(k[:])
}

func (a Scalar) Neg() Scalar  { return Scalar{}.Sub(a) }
func (a Scalar) IsZero() bool { return a == Scalar{} }

// by is a so often as the number says whose bytes, lowest first, b are.
func (a Scalar) by(b []byte) Scalar {
	var r Scalar
	for i := range b {
		r = r.next(a, b[len(b)-1-i])
	}
	return r
}

// next is 256 r + n a. What that has from 2^252 on, some ten bits, is how often the order is taken away: as often as it goes or, since the order is a little more than 2^252, once too often. Of both the same goes over the highest word, so that the words alone tell the difference.
func (r Scalar) next(a Scalar, n byte) Scalar {
	w, high := r.value.times(256)
	part, more := a.value.times(uint64(n))
	w, over := w.plus(part)
	high += more + over
	part, _ = order.times(high<<spare | w[count-1]>>(width-spare))
	return within(w.minus(part))
}

// within is the words that a difference left, with the order more if less is 1: then it went below 0. The same is done either way, since they may be a secret.
func within(w words, less uint64) Scalar {
	var more words
	for i := range count {
		more[i] = order[i] & -less
	}
	w, _ = w.plus(more)
	return Scalar{w}
}

// plus, minus, times: a + b, a - b, n a, and what goes over the highest word; of a difference, 1 if it goes below 0.
func (a words) plus(b words) (words, uint64) {
	var over uint64
	for i := range count {
		a[i], over = bits.Add64(a[i], b[i], over)
	}
	return a, over
}

func (a words) minus(b words) (words, uint64) {
	var less uint64
	for i := range count {
		a[i], less = bits.Sub64(a[i], b[i], less)
	}
	return a, less
}

func (a words) times(n uint64) (words, uint64) {
	var above, over uint64
	for i := range count {
		high, low := bits.Mul64(a[i], n)
		a[i], over = bits.Add64(low, above, 0)
		above = high + over
	}
	return a, above
}
