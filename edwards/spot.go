package edwards

import "pawl/field"

// The curve's d is - dOver / dUnder. It is never divided: where d stands in a sum, all is taken dUnder times.
const (
	dOver  = 121665
	dUnder = 121666
)

// spot is a point as fractions over one number, so that no sum has to divide: x / z and y / z are the point's two numbers, t / z is their product. z is never 0.
type spot struct{ x, y, z, t field.Num }

// addend is a spot as the second part of a sum, all of it dUnder times: reckoned once, where the same is added again and again.
type addend struct{ gap, sum, double, cross field.Num }

// flat is the spot of two numbers that are a point.
func flat(x, y field.Num) spot { return spot{x, y, field.Small(1), x.Mul(y)} }

// across is the even x that belongs to y, and whether there is one. By the curve's equation x^2 is (y^2 - 1) / (d y^2 + 1); what stands below is never 0, since -1 / d has no root.
func across(y field.Num) (field.Num, bool) {
	square := y.Square()
	over := square.Sub(field.Small(1)).Times(dUnder)
	under := field.Small(dUnder).Sub(square.Times(dOver))
	return over.Mul(under.Invert()).Root()
}

// ready is the spot as an addend.
func (s spot) ready() addend {
	return addend{
		gap:    s.y.Sub(s.x).Times(dUnder),
		sum:    s.y.Add(s.x).Times(dUnder),
		double: s.z.Times(2 * dUnder),
		cross:  s.t.Times(2 * dOver),
	}
}

// plus is the sum, by the chapter's law: what stands over and under the two lines there is taken 2 z z dUnder times here, z once of each spot.
func (s spot) plus(q addend) spot {
	a, b := s.y.Sub(s.x).Mul(q.gap), s.y.Add(s.x).Mul(q.sum)
	c, d := s.t.Mul(q.cross), s.z.Mul(q.double)
	return shared(b.Sub(a), d.Sub(c), b.Add(a), d.Add(c))
}

// twice is the sum with itself. By the curve's equation y^2 - x^2 is what stands under the line of x, so that d is not asked for.
func (s spot) twice() spot {
	a, b := s.x.Square(), s.y.Square()
	sum, gap := b.Add(a), b.Sub(a)
	return shared(s.x.Add(s.y).Square().Sub(sum), gap, sum, s.z.Square().Times(2).Sub(gap))
}

// shared is the spot of x = a / b and y = c / d.
func shared(a, b, c, d field.Num) spot {
	return spot{a.Mul(d), c.Mul(b), b.Mul(d), a.Mul(c)}
}

// times is the spot so often as the number says whose bytes, lowest first, k are. The sum is made for every bit, also where the bit is 0: k may be a secret.
func (s spot) times(k []byte) spot {
	once := s.ready()
	r := Point{}.spot()
	for i := range k {
		b := k[len(k)-1-i]
		for j := range 8 {
			r = r.twice()
			r = r.or(r.plus(once), b>>(7-j)&1 == 1)
		}
	}
	return r
}

// or is the other spot, if on. The same is done either way.
func (s spot) or(other spot, on bool) spot {
	s.x, _ = field.Swap(s.x, other.x, on)
	s.y, _ = field.Swap(s.y, other.y, on)
	s.z, _ = field.Swap(s.z, other.z, on)
	s.t, _ = field.Swap(s.t, other.t, on)
	return s
}

// equal tells whether two spots are one point.
func (s spot) equal(q spot) bool {
	return s.x.Mul(q.z).Equal(q.x.Mul(s.z)) && s.y.Mul(q.z).Equal(q.y.Mul(s.z))
}
