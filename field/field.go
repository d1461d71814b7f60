// Package field is layer 1: numbers modulo 2^255 - 19: see DOC.md and doc/01-field.md.
package field

import "pawl/api"

// A number is kept in five words of 51 bits, so that sums of words, and of their products, have room above them.
const (
	count = 5
	width = 51
	mask  = 1<<width - 1
	fold  = 19 // 2^255 is 19: what goes over the top comes back at the bottom so often
)

// Num is a number of the field; the zero Num is 0.
//
// Its words, the lowest first, are each below 2^52, whatever calls made it: a number has several such forms, and Bytes alone gives the one form.
type Num struct{ words [count]uint64 }

// fourfold is four times P in words that are each above those of any Num: added ahead of a difference, they keep every word of it from going below 0.
var fourfold = [count]uint64{4 * (mask - 18), 4 * mask, 4 * mask, 4 * mask, 4 * mask}

// From is the number that 32 bytes say, the lowest first, but for the highest bit; Small is n.
func From(b api.Key) Num {
	q0, q1, q2, q3 := eight(b, 0), eight(b, 8), eight(b, 16), eight(b, 24)
	return Num{[count]uint64{
		q0 & mask,
		(q0>>51 | q1<<13) & mask,
		(q1>>38 | q2<<26) & mask,
		(q2>>25 | q3<<39) & mask,
		q3 >> 12 & mask,
	}}
}

func Small(n uint64) Num { return Num{[count]uint64{n & mask, n >> width}} }

// Bytes is the one form of a number, the lowest byte first.
func (a Num) Bytes() api.Key {
	w := a.least()
	var b api.Key
	put(&b, 0, w[0]|w[1]<<51)
	put(&b, 8, w[1]>>13|w[2]<<38)
	put(&b, 16, w[2]>>26|w[3]<<25)
	put(&b, 24, w[3]>>39|w[4]<<12)
	return b
}

// Add, Sub, Neg: the sum, the difference, the opposite. What a word has above its 51 bits goes to the next one; what the highest has there, at most 7, comes back to the lowest.
func (a Num) Add(b Num) Num {
	var r Num
	var over uint64
	for i := range count {
		sum := a.words[i] + b.words[i] + over
		r.words[i] = sum & mask
		over = sum >> width
	}
	r.words[0] += fold * over
	return r
}

func (a Num) Sub(b Num) Num {
	var r Num
	var over uint64
	for i := range count {
		sum := a.words[i] + fourfold[i] - b.words[i] + over
		r.words[i] = sum & mask
		over = sum >> width
	}
	r.words[0] += fold * over
	return r
}

func (a Num) Neg() Num { return Num{}.Sub(a) }

// Equal, IsZero and Odd look at the one form: the words of one value may differ.
func (a Num) Equal(b Num) bool { return a.Bytes() == b.Bytes() }
func (a Num) IsZero() bool     { return a.Bytes() == api.Key{} }
func (a Num) Odd() bool        { return a.Bytes()[0]&1 == 1 }

// Swap is a and b, the other way round if on. The same is done either way, so that on, a bit of a private key, does not show in the work.
func Swap(a, b Num, on bool) (Num, Num) {
	var all uint64
	if on {
		all = 1<<64 - 1
	}
	for i := range count {
		other := (a.words[i] ^ b.words[i]) & all
		a.words[i] ^= other
		b.words[i] ^= other
	}
	return a, b
}

// least is the words, each below 2^51, of the value itself, which is below P.
func (a Num) least() [count]uint64 {
	w, top := settled(a.words, 0)
	// With words below 2^52 top is at most 2, and w + 19 top below 2 P: that is P or more just if 19 more reach 2^255, and then these 19, without 2^255, take P away.
	_, above := settled(w, fold*top+fold)
	w, _ = settled(w, fold*(top+above))
	return w
}

// settled is the number of the words and more, in words below 2^51, and how often 2^255 goes over their top.
func settled(w [count]uint64, more uint64) ([count]uint64, uint64) {
	for i := range count {
		sum := w[i] + more
		w[i] = sum & mask
		more = sum >> width
	}
	return w, more
}

// eight is the number that eight bytes from at on say, the lowest first; put writes them.
func eight(b api.Key, at int) uint64 {
	var n uint64
	for i := range 8 {
		n |= uint64(b[at+i]) << (8 * i)
	}
	return n
}

func put(b *api.Key, at int, n uint64) {
	for i := range 8 {
		b[at+i] = byte(n >> (8 * i))
	}
}
