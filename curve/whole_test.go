package curve_test

import (
	"math/big"
	"math/rand"
	"slices"
	"testing"

	"pawl/api"
	"pawl/curve"
)

// What the tests hold the curve against: whole numbers of math/big modulo P, the ladder in them by the chapter's letters, and points by chord and tangent.

var prime = new(big.Int).Sub(pow2(255), big.NewInt(19))

func pow2(n uint) *big.Int               { return new(big.Int).Lsh(big.NewInt(1), n) }
func modP(n *big.Int) *big.Int           { return new(big.Int).Mod(n, prime) }
func sum(a, b *big.Int) *big.Int         { return modP(new(big.Int).Add(a, b)) }
func gap(a, b *big.Int) *big.Int         { return modP(new(big.Int).Sub(a, b)) }
func mul(a, b *big.Int) *big.Int         { return modP(new(big.Int).Mul(a, b)) }
func times(n int64, a *big.Int) *big.Int { return mul(big.NewInt(n), a) }

// over is a / b; b is not 0.
func over(a, b *big.Int) *big.Int { return mul(a, new(big.Int).ModInverse(b, prime)) }

// right is the curve's right side, x^3 + 486662 x^2 + x.
func right(x *big.Int) *big.Int {
	square := mul(x, x)
	return sum(sum(mul(square, x), times(486662, square)), x)
}

// whole is the number that all 256 bits of a key say, number the one that layer 1 reads.
func whole(k api.Key) *big.Int {
	slices.Reverse(k[:])
	return new(big.Int).SetBytes(k[:])
}

func number(k api.Key) *big.Int {
	n := whole(k)
	return modP(n.SetBit(n, 255, 0))
}

// key is a number below 2^256 as bytes, the lowest first.
func key(n *big.Int) api.Key {
	var k api.Key
	n.FillBytes(k[:])
	slices.Reverse(k[:])
	return k
}

func filled(first, middle, last byte) api.Key {
	var k api.Key
	for i := range k {
		k[i] = middle
	}
	k[0], k[31] = first, last
	return k
}

func bitKey(i int) api.Key {
	var k api.Key
	k[i/8] = 1 << (i % 8)
	return k
}

func drawn(r *rand.Rand) api.Key {
	var k api.Key
	r.Read(k[:])
	return k
}

// plainKeys are private keys at the edges of what clamping leaves.
func plainKeys() []api.Key {
	return []api.Key{{}, filled(1, 0, 0), filled(7, 0, 0x80), filled(8, 0, 0), filled(0, 0, 0x40), filled(0xff, 0xff, 0xff), filled(0xf8, 0xff, 0x7f), filled(0xf0, 0xff, 0x7f)}
}

// weak are the numbers of which Scale always gives 0: of order 2, 4 (of the curve, and of the twist), 8 and 8.
func weak() []*big.Int {
	list := []*big.Int{new(big.Int), big.NewInt(1), new(big.Int).Sub(prime, big.NewInt(1))}
	for _, s := range []string{
		"325606250916557431795983626356110631294008115727848805560023387167927233504",
		"39382357235489614581723060781553021112529911719440698176882885853963445705823",
	} {
		n, _ := new(big.Int).SetString(s, 10)
		list = append(list, n)
	}
	return list
}

func isWeak(n *big.Int) bool {
	return slices.ContainsFunc(weak(), func(w *big.Int) bool { return modP(n).Cmp(w) == 0 })
}

// numbers are edges of the field, the weak numbers and what stands beside them, numbers from P to 2^255 - 1, public keys, numbers of the curve and of its twist.
func numbers() []*big.Int {
	list := weak()
	for _, n := range weak() {
		list = append(list, sum(n, big.NewInt(1)), gap(n, big.NewInt(1)))
	}
	for i := int64(0); i < 19; i++ {
		list = append(list, new(big.Int).Add(prime, big.NewInt(i)))
	}
	for _, i := range []int64{2, 3, 4, 5, 6, 7, 9, 18, 19, 20, 486662, 121665, 121666} {
		list = append(list, big.NewInt(i), modP(big.NewInt(-i)))
	}
	for _, i := range []uint{51, 64, 102, 128, 153, 192, 204, 253, 254} {
		list = append(list, pow2(i), new(big.Int).Sub(pow2(i), big.NewInt(1)))
	}
	r := rand.New(rand.NewSource(21))
	for range 12 {
		list = append(list, whole(curve.Public(drawn(r))), number(drawn(r)))
	}
	return list
}

// said are the keys that say a number below 2^255: with and without the highest bit, and, where it goes, with P more.
func said(n *big.Int) []api.Key {
	var list []api.Key
	least := modP(n)
	for _, m := range []*big.Int{least, new(big.Int).Add(least, prime)} {
		if m.Cmp(pow2(255)) < 0 {
			list = append(list, key(m), key(new(big.Int).SetBit(m, 255, 1)))
		}
	}
	return list
}

// climbed is what the ladder of s and x gives.
func climbed(s, x *big.Int) *big.Int {
	a, b, c, d := big.NewInt(1), new(big.Int), x, big.NewInt(1)
	for t := 254; t >= 0; t-- {
		if s.Bit(t) == 1 {
			a, b, c, d = c, d, a, b
		}
		e, f, g, h := sum(a, b), gap(a, b), sum(c, d), gap(c, d)
		y, z := mul(e, e), mul(f, f)
		r := gap(y, z)
		m, n := mul(h, e), mul(g, f)
		a, b = mul(y, z), mul(r, sum(y, times(121665, r)))
		c, d = mul(sum(m, n), sum(m, n)), mul(x, mul(gap(m, n), gap(m, n)))
		if s.Bit(t) == 1 {
			a, b, c, d = c, d, a, b
		}
	}
	return mul(a, new(big.Int).Exp(b, new(big.Int).Sub(pow2(255), big.NewInt(21)), prime))
}

// point is one of f v^2 = x^3 + 486662 x^2 + x: of the curve with f = 1, of its twist with f = 2. Without x it is the one at infinity.
type point struct {
	f    int64
	x, v *big.Int
}

// lifted is a point that has the number of u.
func lifted(t *testing.T, u api.Key) point {
	t.Helper()
	x := number(u)
	p := point{f: 1, x: x}
	if !curve.On(u) {
		p.f = 2
	}
	p.v = new(big.Int).ModSqrt(over(right(x), big.NewInt(p.f)), prime)
	if p.v == nil {
		t.Fatalf("no point with the number %x, f = %d", u, p.f)
	}
	return p
}

// plus is the sum by the law of chord and tangent.
func (p point) plus(q point) point {
	if p.x == nil {
		return q
	}
	if q.x == nil {
		return p
	}
	var slope *big.Int
	switch {
	case p.x.Cmp(q.x) != 0:
		slope = over(gap(q.v, p.v), gap(q.x, p.x))
	case sum(p.v, q.v).Sign() == 0:
		return point{f: p.f}
	default:
		rise := sum(sum(times(3, mul(p.x, p.x)), times(2*486662, p.x)), big.NewInt(1))
		slope = over(rise, times(2*p.f, p.v))
	}
	x := gap(gap(gap(times(p.f, mul(slope, slope)), big.NewInt(486662)), p.x), q.x)
	return point{f: p.f, x: x, v: gap(mul(slope, gap(p.x, x)), p.v)}
}

// taken is the point so often.
func (p point) taken(s *big.Int) point {
	r := point{f: p.f}
	for t := s.BitLen() - 1; t >= 0; t-- {
		r = r.plus(r)
		if s.Bit(t) == 1 {
			r = r.plus(p)
		}
	}
	return r
}
