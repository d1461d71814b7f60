package edwards_test

import (
	"bytes"
	"math/big"
	"math/rand"
	"slices"
	"testing"

	"pawl/api"
	"pawl/edwards"
)

// says tells whether a Scalar is a number modulo the order.
func says(s edwards.Scalar, n *big.Int) bool {
	return s.Bytes() == key(modL(n)) && s.IsZero() == (modL(n).Sign() == 0)
}

// P19.6

func TestOrder(t *testing.T) {
	if key(order) != read(t, "edd3f55c1a631258d69cf7a2def9de1400000000000000000000000000000010") || !order.ProbablyPrime(20) {
		t.Errorf("the order: %x", key(order))
	}
}

func TestReduceOfEdges(t *testing.T) {
	for _, n := range numbers() {
		for _, b := range [][]byte{lowest(n), append(lowest(n), 0), append(lowest(n), make([]byte, 40)...)} {
			if got := edwards.Reduce(b); !says(got, n) {
				t.Errorf("Reduce(%x): %x", b, got.Bytes())
			}
		}
	}
}

// Multiples of the order, and what stands beside them, are where one too many or too few shows.
func TestReduceOfMultiples(t *testing.T) {
	r := rand.New(rand.NewSource(197))
	var times []*big.Int
	for i := range int64(20) {
		times = append(times, big.NewInt(i), less(pow2(8), i-8), less(pow2(16), i-8), whole(drawn(r, int(i)+1)))
	}
	for _, n := range times {
		for i := int64(-2); i <= 2; i++ {
			m := less(new(big.Int).Mul(n, order), i)
			if m.Sign() < 0 {
				continue
			}
			if got := edwards.Reduce(lowest(m)); !says(got, m) {
				t.Errorf("Reduce(%x): %x", lowest(m), got.Bytes())
			}
		}
	}
}

func TestReduceOfAllLengths(t *testing.T) {
	r := rand.New(rand.NewSource(198))
	for n := range 140 {
		for _, b := range [][]byte{drawn(r, n), make([]byte, n), bytes.Repeat([]byte{0xff}, n)} {
			if got := edwards.Reduce(b); !says(got, whole(b)) {
				t.Errorf("Reduce(%x): %x", b, got.Bytes())
			}
		}
	}
	long := drawn(r, 5000)
	if got := edwards.Reduce(long); !says(got, whole(long)) {
		t.Errorf("Reduce of 5000 bytes: %x", got.Bytes())
	}
	if !edwards.Reduce(nil).IsZero() || edwards.Reduce(nil) != (edwards.Scalar{}) {
		t.Error("Reduce of no bytes")
	}
}

func TestReduceKeepsItsBytes(t *testing.T) {
	room := []byte{5, 1, 7, 9, 9, 9}
	first := edwards.Reduce(room[:2])
	if !bytes.Equal(room, []byte{5, 1, 7, 9, 9, 9}) {
		t.Errorf("the bytes are now %x", room)
	}
	room[0] = 6
	if !says(first, big.NewInt(261)) || !says(edwards.Reduce(room[:2]), big.NewInt(262)) {
		t.Error("the bytes were kept")
	}
}

func TestWhole(t *testing.T) {
	check := func(n *big.Int) {
		t.Helper()
		s, e := edwards.Whole(key(n))
		if n.Cmp(order) >= 0 {
			if e != api.ErrScalar || s != (edwards.Scalar{}) || !s.IsZero() {
				t.Errorf("Whole(%x): %x, %v", key(n), s.Bytes(), e)
			}
			return
		}
		if e != api.OK || s.Bytes() != key(n) || !says(s, n) || s != edwards.Reduce(lowest(n)) {
			t.Errorf("Whole(%x): %x, %v", key(n), s.Bytes(), e)
		}
	}
	for _, n := range numbers() {
		if n.Cmp(pow2(256)) < 0 {
			check(n)
		}
	}
	for i := range uint(256) {
		check(pow2(i))
		check(new(big.Int).Sub(pow2(256), pow2(i)))
		if i < 253 {
			check(new(big.Int).Sub(order, pow2(i)))
		}
		check(new(big.Int).Xor(order, pow2(i)))
	}
	r := rand.New(rand.NewSource(199))
	for range 200 {
		b := drawn(r, 32)
		check(whole(b))
		b[31] &= 0x1f
		check(whole(b))
	}
}

// P19.7, P19.12

func TestReckoning(t *testing.T) {
	whole, made := below(t)
	for i, a := range made {
		if !says(a.Neg(), new(big.Int).Neg(whole[i])) {
			t.Errorf("the opposite of %x: %x", a.Bytes(), a.Neg().Bytes())
		}
		for j, b := range made {
			x, y := whole[i], whole[j]
			for _, c := range []struct {
				name string
				got  edwards.Scalar
				want *big.Int
			}{
				{"Add", a.Add(b), new(big.Int).Add(x, y)},
				{"Sub", a.Sub(b), new(big.Int).Sub(x, y)},
				{"Mul", a.Mul(b), new(big.Int).Mul(x, y)},
			} {
				if !says(c.got, c.want) || c.got != edwards.Reduce(lowest(modL(c.want))) {
					t.Fatalf("%s of %x and %x: %x", c.name, a.Bytes(), b.Bytes(), c.got.Bytes())
				}
			}
			if (a == b) != (x.Cmp(y) == 0) {
				t.Errorf("%x and %x as values", a.Bytes(), b.Bytes())
			}
		}
	}
}

func TestReckoningOfDrawn(t *testing.T) {
	r := rand.New(rand.NewSource(200))
	for range 2000 {
		p, q := drawn(r, 64), drawn(r, r.Intn(64))
		a, b, x, y := edwards.Reduce(p), edwards.Reduce(q), whole(p), whole(q)
		if !says(a.Add(b), new(big.Int).Add(x, y)) || !says(a.Sub(b), new(big.Int).Sub(x, y)) || !says(a.Mul(b), new(big.Int).Mul(x, y)) || !says(a.Neg(), new(big.Int).Neg(x)) {
			t.Fatalf("of %x and %x", p, q)
		}
	}
}

func TestScalarExamples(t *testing.T) {
	one := edwards.Reduce([]byte{1})
	if s, e := edwards.Whole(key(order)); e != api.ErrScalar || s != (edwards.Scalar{}) {
		t.Errorf("Whole(L): %v", e)
	}
	last, e := edwards.Whole(key(less(order, 1)))
	if e != api.OK || !last.Add(one).IsZero() || last.Mul(last) != one || last.Neg() != one || last.IsZero() {
		t.Errorf("L - 1: %v", e)
	}
	l := key(order)
	if !edwards.Reduce(l[:]).IsZero() {
		t.Error("Reduce of L")
	}
	var none edwards.Scalar
	if !none.IsZero() || none.Bytes() != (api.Key{}) || none.Neg() != none || none.Add(one) != one || none.Sub(one) != last || none.Mul(one) != none || one.IsZero() {
		t.Error("the zero Scalar")
	}
}

// Reduce of a | b is Reduce(a) plus Reduce(b) times Reduce of as many zeros as a has bytes and a 1.
func TestReduceOfJoined(t *testing.T) {
	r := rand.New(rand.NewSource(201))
	for range 300 {
		a, b := drawn(r, r.Intn(50)), drawn(r, r.Intn(50))
		place := edwards.Reduce(append(make([]byte, len(a)), 1))
		if edwards.Reduce(slices.Concat(a, b)) != edwards.Reduce(a).Add(edwards.Reduce(b).Mul(place)) {
			t.Fatalf("Reduce of %x | %x", a, b)
		}
	}
}
