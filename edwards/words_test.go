package edwards

import (
	"math/big"
	"math/rand"
	"testing"

	"pawl/api"
	"pawl/field"
)

// What is kept inside has rules that calls from outside do not show: these tests hold each call's answer against them.

// within tells whether a spot is one of the curve, with z that is not 0 and the product that belongs to it.
func (s spot) within() bool {
	a, b := s.x.Square(), s.y.Square()
	left := b.Sub(a).Mul(s.z.Square()).Times(dUnder)
	right := s.z.Square().Square().Times(dUnder).Sub(a.Mul(b).Times(dOver))
	return !s.z.IsZero() && s.t.Mul(s.z).Equal(s.x.Mul(s.y)) && left.Equal(right)
}

func TestPointsStayWithin(t *testing.T) {
	small, e := Parse(api.Key{})
	drawn, f := Parse(api.Key{3})
	lifted, g := Lift(api.Key{9}, true)
	if e != api.OK || f != api.OK || g != api.OK {
		t.Fatal(e, f, g)
	}
	list := []Point{{}, Base(), small, drawn, lifted}
	r := rand.New(rand.NewSource(206))
	for range 300 {
		p, q := list[r.Intn(len(list))], list[r.Intn(len(list))]
		k := make([]byte, r.Intn(4))
		r.Read(k)
		s := Reduce(k)
		list = append(list, []Point{p.Add(q), p.Sub(q), p.Neg(), p.Double(), p.Scale(k), p.Times(s)}[r.Intn(6)])
	}
	for i, p := range list {
		if !p.spot().within() {
			t.Fatalf("point %d: %x, %x, %x, %x", i, p.x.Bytes(), p.y.Bytes(), p.z.Bytes(), p.t.Bytes())
		}
	}
}

// Neither d nor -1 / d has a root: that is why no sum and no x divides by 0.
func TestTheFractionHasNoRoot(t *testing.T) {
	d := field.Small(dOver).Neg().Mul(field.Small(dUnder).Invert())
	if _, ok := d.Root(); ok {
		t.Error("d is a square")
	}
	if _, ok := d.Invert().Neg().Root(); ok {
		t.Error("-1 / d is a square")
	}
}

func (a words) number() *big.Int {
	n := new(big.Int)
	for i := range count {
		w := new(big.Int).SetUint64(a[i])
		n.Add(n, w.Lsh(w, uint(width*i)))
	}
	return n
}

// edges is the numbers below the order at which a word, the order or 2^252 ends.
func edges() []Scalar {
	list := []Scalar{{}, {words{1}}, {words{1<<64 - 1}}, {words{0, 1}}, {words{0, 0, 0, 1}}}
	top := uint64(1) << 60
	for _, w := range []words{
		{1<<64 - 1, 1<<64 - 1, 1<<64 - 1, top - 1},
		{0, 0, 0, top},
		{1<<64 - 1, 0, 0, top},
		{order[0] - 1, order[1], 0, top},
		{order[0] - 2, order[1], 0, top},
		{1<<64 - 1, order[1] - 1, 0, top},
		{order[0] / 2, order[1] / 2, 0, top / 2},
		{0, 1<<64 - 1, 0, top - 1},
	} {
		list = append(list, Scalar{w})
	}
	return list
}

func TestNextOfEdges(t *testing.T) {
	l := order.number()
	for _, r := range edges() {
		if r.value.number().Cmp(l) >= 0 {
			t.Fatalf("%x is not below the order", r.value)
		}
		for _, a := range edges() {
			for n := range 256 {
				want := new(big.Int).Lsh(r.value.number(), 8)
				want.Add(want, new(big.Int).Mul(a.value.number(), big.NewInt(int64(n))))
				want.Mod(want, l)
				if got := r.next(a, byte(n)); got.value.number().Cmp(want) != 0 {
					t.Fatalf("256 %x + %d %x: %x", r.value, n, a.value, got.value)
				}
			}
		}
	}
}

func TestWords(t *testing.T) {
	full := new(big.Int).Lsh(big.NewInt(1), count*width)
	list := []words{{}, {1}, {0, 0, 0, 1 << 63}, {1<<64 - 1, 1<<64 - 1, 1<<64 - 1, 1<<64 - 1}, {1<<64 - 1, 0, 1<<64 - 1, 0}, {0, 1<<64 - 1, 0, 1<<64 - 1}, order}
	over := func(w words, above uint64) *big.Int {
		high := new(big.Int).SetUint64(above)
		return high.Add(high.Mul(high, full), w.number())
	}
	for _, a := range list {
		for _, b := range list {
			if got := over(a.plus(b)); got.Cmp(new(big.Int).Add(a.number(), b.number())) != 0 {
				t.Errorf("%x + %x: %x", a, b, got)
			}
			w, less := a.minus(b)
			got := w.number()
			if less == 1 {
				got.Sub(got, full)
			}
			if less > 1 || got.Cmp(new(big.Int).Sub(a.number(), b.number())) != 0 {
				t.Errorf("%x - %x: %x", a, b, got)
			}
			n := b[0]
			if got := over(a.times(n)); got.Cmp(new(big.Int).Mul(a.number(), new(big.Int).SetUint64(n))) != 0 {
				t.Errorf("%d times %x: %x", n, a, got)
			}
		}
	}
}
