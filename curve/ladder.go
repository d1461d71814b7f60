package curve

import "pawl/field"

// top is the highest bit that a clamped key may have.
const top = 254

// quarter is the number by which a doubling leans on the curve: 121665.
const quarter = (middle - 2) / 4

// rung is two neighbouring multiples of one point, each as a fraction, so that no step has to divide: a / b is the number of the lower one, c / d that of the upper one. Below stands 0 where the point is the one at infinity.
type rung struct{ a, b, c, d field.Num }

// ladder is the number of the point that has the number x, taken as often as the bits from the top one down to bit(0) say; of the point at infinity it is 0. The same is done whatever the bits are: they are a private key's.
func ladder(bit func(t int) bool, x field.Num) field.Num {
	p := rung{a: field.Small(1), c: x, d: field.Small(1)}
	for i := range top + 1 {
		on := bit(top - i)
		p = p.turned(on).up(x).turned(on)
	}
	return p.a.Mul(p.b.Invert())
}

// turned is the rung with its two points the other way round, if on.
func (p rung) turned(on bool) rung {
	p.a, p.c = field.Swap(p.a, p.c, on)
	p.b, p.d = field.Swap(p.b, p.d, on)
	return p
}

// up is twice the first point of the rung, and the sum of both; x is the number of their difference. The letters are the chapter's.
func (p rung) up(x field.Num) rung {
	e, f := p.a.Add(p.b), p.a.Sub(p.b)
	g, h := p.c.Add(p.d), p.c.Sub(p.d)
	y, z := e.Square(), f.Square()
	r := y.Sub(z)
	m, n := h.Mul(e), g.Mul(f)
	return rung{
		a: y.Mul(z),
		b: r.Mul(y.Add(r.Times(quarter))),
		c: m.Add(n).Square(),
		d: x.Mul(m.Sub(n).Square()),
	}
}
