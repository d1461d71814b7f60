package field

import "math/bits"

// wide is a number of 128 bits: a sum of products of two words.
type wide struct{ high, low uint64 }

// product is a times b; plus is w and a times b.
func product(a, b uint64) wide {
	high, low := bits.Mul64(a, b)
	return wide{high, low}
}

func (w wide) plus(a, b uint64) wide {
	high, low := bits.Mul64(a, b)
	low, carry := bits.Add64(w.low, low, 0)
	high, _ = bits.Add64(w.high, high, carry)
	return wide{high, low}
}

// rest is what w has below 2^51, over what it has from there on.
func (w wide) rest() uint64 { return w.low & mask }
func (w wide) over() uint64 { return w.high<<(64-width) | w.low>>width }

// joined is the number whose words the five are, once what each has above its 51 bits has gone to the next one, twice. Words are below 2^52, and a sum takes at most 77 products of two, the highest one at most 5: so what goes over is below 2^60, nineteen times that of the highest too, and at the second time below 2^10.
func joined(r0, r1, r2, r3, r4 wide) Num {
	w0 := r0.rest() + fold*r4.over()
	w1 := r1.rest() + r0.over()
	w2 := r2.rest() + r1.over()
	w3 := r3.rest() + r2.over()
	w4 := r4.rest() + r3.over()
	return Num{[count]uint64{
		w0&mask + fold*(w4>>width),
		w1&mask + w0>>width,
		w2&mask + w1>>width,
		w3&mask + w2>>width,
		w4&mask + w3>>width,
	}}
}

// Mul is the product. Where two words' product stands at 2^255 or above, it counts nineteen times, five words further down.
func (a Num) Mul(b Num) Num {
	a0, a1, a2, a3, a4 := a.words[0], a.words[1], a.words[2], a.words[3], a.words[4]
	b0, b1, b2, b3, b4 := b.words[0], b.words[1], b.words[2], b.words[3], b.words[4]
	c1, c2, c3, c4 := fold*a1, fold*a2, fold*a3, fold*a4
	return joined(
		product(a0, b0).plus(c1, b4).plus(c2, b3).plus(c3, b2).plus(c4, b1),
		product(a0, b1).plus(a1, b0).plus(c2, b4).plus(c3, b3).plus(c4, b2),
		product(a0, b2).plus(a1, b1).plus(a2, b0).plus(c3, b4).plus(c4, b3),
		product(a0, b3).plus(a1, b2).plus(a2, b1).plus(a3, b0).plus(c4, b4),
		product(a0, b4).plus(a1, b3).plus(a2, b2).plus(a3, b1).plus(a4, b0),
	)
}

// Square is the product with itself: what Mul takes twice, it takes once and doubled.
func (a Num) Square() Num {
	a0, a1, a2, a3, a4 := a.words[0], a.words[1], a.words[2], a.words[3], a.words[4]
	d0, d1, d2, d3 := 2*a0, 2*a1, 2*a2, 2*a3
	c3, c4 := fold*a3, fold*a4
	return joined(
		product(a0, a0).plus(d1, c4).plus(d2, c3),
		product(d0, a1).plus(d2, c4).plus(a3, c3),
		product(d0, a2).plus(a1, a1).plus(d3, c4),
		product(d0, a3).plus(d1, a2).plus(a4, c4),
		product(d0, a4).plus(d1, a3).plus(a2, a2),
	)
}

// Times is the product with n.
func (a Num) Times(n uint32) Num {
	m := uint64(n)
	return joined(
		product(a.words[0], m),
		product(a.words[1], m),
		product(a.words[2], m),
		product(a.words[3], m),
		product(a.words[4], m),
	)
}
