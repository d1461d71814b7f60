package edwards_test

import (
	"encoding/hex"
	"math/big"
	"math/rand"
	"slices"
	"testing"

	"pawl/api"
	"pawl/edwards"
)

// What the tests hold the layer against: whole numbers of math/big, and points as two of them, that add up by the chapter's law.

var (
	prime = new(big.Int).Sub(pow2(255), big.NewInt(19))
	order = new(big.Int).Add(pow2(252), decimal("27742317777372353535851937790883648493"))
	turn  = over(big.NewInt(-121665), big.NewInt(121666)) // the chapter's d
)

func decimal(s string) *big.Int {
	n, _ := new(big.Int).SetString(s, 10)
	return n
}

func pow2(n uint) *big.Int              { return new(big.Int).Lsh(big.NewInt(1), n) }
func less(a *big.Int, n int64) *big.Int { return new(big.Int).Sub(a, big.NewInt(n)) }
func modP(n *big.Int) *big.Int          { return new(big.Int).Mod(n, prime) }
func modL(n *big.Int) *big.Int          { return new(big.Int).Mod(n, order) }
func plus(a, b *big.Int) *big.Int       { return modP(new(big.Int).Add(a, b)) }
func minus(a, b *big.Int) *big.Int      { return modP(new(big.Int).Sub(a, b)) }
func mul(a, b *big.Int) *big.Int        { return modP(new(big.Int).Mul(a, b)) }

// over is a / b; b is not 0.
func over(a, b *big.Int) *big.Int { return mul(a, new(big.Int).ModInverse(modP(b), prime)) }

// whole is the number that bytes say, the lowest first; key a number below 2^256 as bytes.
func whole(b []byte) *big.Int {
	b = slices.Clone(b)
	slices.Reverse(b)
	return new(big.Int).SetBytes(b)
}

func key(n *big.Int) api.Key {
	var k api.Key
	n.FillBytes(k[:])
	slices.Reverse(k[:])
	return k
}

// lowest is a number's bytes, without zeros at the end.
func lowest(n *big.Int) []byte {
	b := n.Bytes()
	slices.Reverse(b)
	return b
}

func read(t *testing.T, s string) api.Key {
	t.Helper()
	b, err := hex.DecodeString(s)
	if err != nil || len(b) != len(api.Key{}) {
		t.Fatalf("no key: %s", s)
	}
	return api.Key(b)
}

func filled(first, middle, last byte) api.Key {
	var k api.Key
	for i := range k {
		k[i] = middle
	}
	k[0], k[31] = first, last
	return k
}

func drawn(r *rand.Rand, n int) []byte {
	b := make([]byte, n)
	r.Read(b)
	return b
}

// pair is a point as the chapter tells it.
type pair struct{ x, y *big.Int }

func neutral() pair { return pair{new(big.Int), big.NewInt(1)} }

// on tells whether the curve's equation holds.
func (p pair) on() bool {
	a, b := mul(p.x, p.x), mul(p.y, p.y)
	return minus(b, a).Cmp(plus(big.NewInt(1), mul(turn, mul(a, b)))) == 0
}

// plus is the sum by the chapter's law.
func (p pair) plus(q pair) pair {
	cross := mul(turn, mul(mul(p.x, q.x), mul(p.y, q.y)))
	return pair{
		over(plus(mul(p.x, q.y), mul(q.x, p.y)), plus(big.NewInt(1), cross)),
		over(plus(mul(p.y, q.y), mul(p.x, q.x)), minus(big.NewInt(1), cross)),
	}
}

func (p pair) opposite() pair { return pair{minus(new(big.Int), p.x), p.y} }

// often is the point so many times.
func (p pair) often(n *big.Int) pair {
	r := neutral()
	for i := n.BitLen() - 1; i >= 0; i-- {
		r = r.plus(r)
		if n.Bit(i) == 1 {
			r = r.plus(p)
		}
	}
	return r
}

func (p pair) same(q pair) bool { return p.x.Cmp(q.x) == 0 && p.y.Cmp(q.y) == 0 }

// bytes is the point's bytes, u the number of P19.3.
func (p pair) bytes() api.Key {
	b := key(p.y)
	if p.x.Bit(0) == 1 {
		b[31] |= 0x80
	}
	return b
}

func (p pair) u() api.Key {
	if p.y.Cmp(big.NewInt(1)) == 0 {
		return api.Key{}
	}
	return key(over(plus(big.NewInt(1), p.y), minus(big.NewInt(1), p.y)))
}

// beside is the point of that y whose x is odd just if odd, and whether there is one.
func beside(y *big.Int, odd bool) (pair, bool) {
	square := mul(y, y)
	x := new(big.Int).ModSqrt(over(less(square, 1), plus(mul(turn, square), big.NewInt(1))), prime)
	if x == nil || x.Sign() == 0 && odd {
		return pair{}, false
	}
	if (x.Bit(0) == 1) != odd {
		x = minus(new(big.Int), x)
	}
	return pair{x, modP(y)}, true
}

func base() pair {
	p, _ := beside(over(big.NewInt(4), big.NewInt(5)), false)
	return p
}

// eighth is a point of which all that are Small are multiples.
func eighth(t testing.TB) pair {
	b, _ := hex.DecodeString("c7176a703d4dd84fba3c0b760d10670f2a2053fa2c39ccc64ec7fd7792ac037a")
	p, ok := beside(modP(new(big.Int).SetBit(whole(b), 255, 0)), false)
	if !ok || p.often(big.NewInt(4)).same(neutral()) || !p.often(big.NewInt(8)).same(neutral()) {
		t.Fatal("no point of the order 8")
	}
	return p
}

// pairs is points of all kinds: the small ones, multiples of Base, sums of both, and some that were drawn, with their opposites.
func pairs(t testing.TB) []pair {
	e, b := eighth(t), base()
	var list []pair
	for i := range int64(8) {
		list = append(list, e.often(big.NewInt(i)))
	}
	for _, n := range []*big.Int{big.NewInt(1), big.NewInt(2), big.NewInt(3), big.NewInt(8), less(order, 1), less(order, 2), pow2(252)} {
		list = append(list, b.often(n))
	}
	for i := range int64(8) {
		list = append(list, b.often(big.NewInt(i*i+1)).plus(list[i]))
	}
	r := rand.New(rand.NewSource(191))
	for len(list) < 30 {
		if p, ok := beside(new(big.Int).Rand(r, prime), r.Intn(2) == 1); ok {
			list = append(list, p, p.opposite())
		}
	}
	return list
}

// point is the Point, read from its bytes.
func point(t testing.TB, p pair) edwards.Point {
	t.Helper()
	q, e := edwards.Parse(p.bytes())
	if e != api.OK || !p.on() {
		t.Fatalf("Parse(%x): %v", p.bytes(), e)
	}
	return q
}

// forms is one point come by in several ways, so that what a Point keeps inside differs.
func forms(t testing.TB, p pair) []edwards.Point {
	t.Helper()
	q, b := point(t, p), edwards.Base()
	list := []edwards.Point{q, q.Neg().Neg(), q.Add(b).Sub(b), q.Double().Sub(q), q.Scale([]byte{1}), b.Scale([]byte{200}).Add(q).Sub(b.Scale([]byte{199})).Sub(b), q.Add(edwards.Point{})}
	if p.same(neutral()) {
		list = append(list, edwards.Point{}, b.Sub(b), b.Scale(nil))
	}
	return list
}

// is tells whether a Point is that point, by its bytes.
func is(p edwards.Point, want pair) bool { return p.Bytes() == want.bytes() }

// numbers is edges of whole numbers: of the order, of the words, of bytes; and some that were drawn.
func numbers() []*big.Int {
	list := []*big.Int{new(big.Int), big.NewInt(1), big.NewInt(2), big.NewInt(7), big.NewInt(8), big.NewInt(255), big.NewInt(256)}
	for _, n := range []*big.Int{pow2(64), pow2(128), pow2(192), pow2(248), pow2(251), pow2(252), pow2(253), pow2(255), pow2(256), order, new(big.Int).Lsh(order, 1), new(big.Int).Lsh(order, 3), new(big.Int).Mul(order, big.NewInt(15)), prime} {
		list = append(list, less(n, 2), less(n, 1), n, less(n, -1))
	}
	list = append(list, new(big.Int).Rsh(order, 1), new(big.Int).Sub(order, pow2(64)), new(big.Int).Sub(order, pow2(124)), new(big.Int).Add(pow2(252), pow2(124)))
	r := rand.New(rand.NewSource(192))
	for i := range 12 {
		list = append(list, whole(drawn(r, 20+4*i)))
	}
	return list
}

// below is the numbers that are less than the order, as they are and as Scalars.
func below(t *testing.T) ([]*big.Int, []edwards.Scalar) {
	t.Helper()
	var list []*big.Int
	var made []edwards.Scalar
	for _, n := range numbers() {
		if n.Cmp(order) < 0 {
			s, e := edwards.Whole(key(n))
			if e != api.OK {
				t.Fatalf("Whole(%x): %v", key(n), e)
			}
			list, made = append(list, n), append(made, s)
		}
	}
	return list, made
}
