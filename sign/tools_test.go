package sign_test

import (
	"crypto/sha512"
	"encoding/hex"
	"math/big"
	"math/rand"
	"slices"
	"testing"

	"pawl/api"
)

// What the tests hold the layer against: the chapter's words done by whole numbers of math/big, with points as two of them, and Go's own SHA-512.

var (
	prime = new(big.Int).Sub(pow2(255), big.NewInt(19))
	order = new(big.Int).Add(pow2(252), decimal("27742317777372353535851937790883648493"))
	turn  = over(big.NewInt(-121665), big.NewInt(121666)) // the d of chapter 19
)

func decimal(s string) *big.Int {
	n, _ := new(big.Int).SetString(s, 10)
	return n
}

func pow2(n uint) *big.Int              { return new(big.Int).Lsh(big.NewInt(1), n) }
func less(a *big.Int, n int64) *big.Int { return new(big.Int).Sub(a, big.NewInt(n)) }
func modP(n *big.Int) *big.Int          { return new(big.Int).Mod(n, prime) }
func modL(n *big.Int) *big.Int          { return new(big.Int).Mod(n, order) }
func plus(a, b *big.Int) *big.Int       { return modP(new(big.Int).Add(a, b)) }
func minus(a, b *big.Int) *big.Int      { return modP(new(big.Int).Sub(a, b)) }
func mul(a, b *big.Int) *big.Int        { return modP(new(big.Int).Mul(a, b)) }

// over is a / b; b is not 0.
func over(a, b *big.Int) *big.Int { return mul(a, new(big.Int).ModInverse(modP(b), prime)) }

// whole is the number that bytes say, the lowest first; key a number below 2^256 as bytes.
func whole(b []byte) *big.Int {
	b = slices.Clone(b)
	slices.Reverse(b)
	return new(big.Int).SetBytes(b)
}

func key(n *big.Int) api.Key {
	var k api.Key
	n.FillBytes(k[:])
	slices.Reverse(k[:])
	return k
}

// pair is a point as chapter 19 tells it.
type pair struct{ x, y *big.Int }

func neutral() pair { return pair{new(big.Int), big.NewInt(1)} }

// plus is the sum by the law of chapter 19.
func (p pair) plus(q pair) pair {
	cross := mul(turn, mul(mul(p.x, q.x), mul(p.y, q.y)))
	return pair{
		over(plus(mul(p.x, q.y), mul(q.x, p.y)), plus(big.NewInt(1), cross)),
		over(plus(mul(p.y, q.y), mul(p.x, q.x)), minus(big.NewInt(1), cross)),
	}
}

func (p pair) opposite() pair { return pair{minus(new(big.Int), p.x), p.y} }

// often is the point so many times.
func (p pair) often(n *big.Int) pair {
	r := neutral()
	for i := n.BitLen() - 1; i >= 0; i-- {
		r = r.plus(r)
		if n.Bit(i) == 1 {
			r = r.plus(p)
		}
	}
	return r
}

func (p pair) same(q pair) bool { return p.x.Cmp(q.x) == 0 && p.y.Cmp(q.y) == 0 }

// bytes is the point's bytes, u its number of layer 2.
func (p pair) bytes() api.Key {
	b := key(p.y)
	if p.x.Bit(0) == 1 {
		b[31] |= 0x80
	}
	return b
}

func (p pair) u() api.Key {
	if p.y.Cmp(big.NewInt(1)) == 0 {
		return api.Key{}
	}
	return key(over(plus(big.NewInt(1), p.y), minus(big.NewInt(1), p.y)))
}

// beside is the point of that y whose x is odd just if odd, and whether there is one.
func beside(y *big.Int, odd bool) (pair, bool) {
	square := mul(y, y)
	x := new(big.Int).ModSqrt(over(less(square, 1), plus(mul(turn, square), big.NewInt(1))), prime)
	if x == nil || x.Sign() == 0 && odd {
		return pair{}, false
	}
	if (x.Bit(0) == 1) != odd {
		x = minus(new(big.Int), x)
	}
	return pair{x, modP(y)}, true
}

func base() pair {
	p, _ := beside(over(big.NewInt(4), big.NewInt(5)), false)
	return p
}

// smalls is the eight points that sign nothing, the neutral one first.
func smalls(t testing.TB) []pair {
	t.Helper()
	e, ok := beside(modP(whole(digits(t, "c7176a703d4dd84fba3c0b760d10670f2a2053fa2c39ccc64ec7fd7792ac037a"))), false)
	if !ok || e.often(big.NewInt(4)).same(neutral()) || !e.often(big.NewInt(8)).same(neutral()) {
		t.Fatal("no point of the order 8")
	}
	var list []pair
	for i := range int64(8) {
		list = append(list, e.often(big.NewInt(i)))
	}
	return list
}

func hashOf(b []byte) []byte {
	sum := sha512.Sum512(b)
	return sum[:]
}

// hashed is the number modulo the order that the hash of the parts says.
func hashed(parts ...[]byte) *big.Int {
	return modL(whole(hashOf(slices.Concat(parts...))))
}

// clamped is the private key as it is used, by the words of chapter 2.
func clamped(k []byte) *big.Int {
	n := whole(k)
	for _, i := range []int{0, 1, 2, 255} {
		n.SetBit(n, i, 0)
	}
	return n.SetBit(n, 254, 1)
}

// made is the signature of b by a times Base, whose bytes are public, with r.
func made(a, r *big.Int, public api.Key, b []byte) api.Signature {
	first := base().often(r).bytes()
	c := hashed(first[:], public[:], b)
	last := key(modL(c.Add(c.Mul(c, a), r)))
	return api.Signature(slices.Concat(first[:], last[:]))
}

// holds tells whether R and S hold for a point and b.
func holds(p pair, b []byte, s api.Signature) bool {
	public := p.bytes()
	c := hashed(s[:32], public[:], b)
	got := base().often(whole(s[32:])).plus(p.often(c).opposite()).bytes()
	return whole(s[32:]).Cmp(order) < 0 && got == api.Key(s[:32])
}

func digits(t testing.TB, s string) []byte {
	t.Helper()
	b, err := hex.DecodeString(s)
	if err != nil {
		t.Fatal(err)
	}
	return b
}

func read(t testing.TB, s string) api.Key {
	t.Helper()
	return api.Key(digits(t, s))
}

func filled(first, middle, last byte) api.Key {
	var k api.Key
	for i := range k {
		k[i] = middle
	}
	k[0], k[31] = first, last
	return k
}

func drawn(r *rand.Rand, n int) []byte {
	b := make([]byte, n)
	r.Read(b)
	return b
}

// with is the signature with another S.
func with(s api.Signature, last api.Key) api.Signature {
	copy(s[32:], last[:])
	return s
}
