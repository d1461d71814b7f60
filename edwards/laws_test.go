package edwards_test

import (
	"math/big"
	"math/rand"
	"testing"

	"pawl/api"
	"pawl/curve"
	"pawl/edwards"
)

// points is one form of each of the pairs.
func points(t *testing.T) []edwards.Point {
	var list []edwards.Point
	for i, p := range pairs(t) {
		made := forms(t, p)
		list = append(list, made[i%len(made)])
	}
	return list
}

// P19.8

func TestGroup(t *testing.T) {
	list := points(t)
	var none edwards.Point
	for i, p := range list {
		if !p.Add(p.Neg()).IsNeutral() || !p.Sub(p).IsNeutral() || !p.Double().Equal(p.Add(p)) {
			t.Errorf("%x: the opposite, the double", p.Bytes())
		}
		if !p.Add(none).Equal(p) || !none.Add(p).Equal(p) || !p.Sub(none).Equal(p) {
			t.Errorf("%x and the neutral one", p.Bytes())
		}
		for j, q := range list {
			s := list[(i*i+3*j)%len(list)]
			if !p.Add(q).Equal(q.Add(p)) || !p.Add(q).Add(s).Equal(p.Add(q.Add(s))) {
				t.Errorf("the sum of %x, %x, %x", p.Bytes(), q.Bytes(), s.Bytes())
			}
		}
	}
}

// P19.9

func TestMultiplesOfSumsAndProducts(t *testing.T) {
	r := rand.New(rand.NewSource(202))
	for _, p := range points(t) {
		a, b := drawn(r, r.Intn(40)), drawn(r, r.Intn(40))
		x, y := whole(a), whole(b)
		if !p.Scale(lowest(new(big.Int).Add(x, y))).Equal(p.Scale(a).Add(p.Scale(b))) {
			t.Errorf("Scale of the sum of %x and %x", a, b)
		}
		product := p.Scale(lowest(new(big.Int).Mul(x, y)))
		if !product.Equal(p.Scale(a).Scale(b)) || !product.Equal(p.Scale(b).Scale(a)) {
			t.Errorf("Scale of the product of %x and %x", a, b)
		}
	}
}

func TestMultiplesOfTheOrder(t *testing.T) {
	l := key(order)
	if !edwards.Base().Scale(l[:]).IsNeutral() || edwards.Base().Scale(lowest(less(order, 1))).IsNeutral() {
		t.Error("L times Base")
	}
	eight := edwards.Reduce([]byte{8})
	for i, p := range points(t) {
		if !p.Scale(lowest(new(big.Int).Lsh(order, 3))).IsNeutral() || !p.Scale(l[:]).Small() || !p.Scale(l[:]).Scale([]byte{8}).IsNeutral() {
			t.Errorf("eight L times %x", p.Bytes())
		}
		if !p.Times(eight).Equal(p.Double().Double().Double()) {
			t.Errorf("eight times point %d", i)
		}
	}
}

func TestTimesGoesWithScalars(t *testing.T) {
	r := rand.New(rand.NewSource(203))
	list := []edwards.Point{edwards.Base()}
	for _, p := range points(t) {
		list = append(list, p.Scale([]byte{8}))
	}
	_, edges := below(t)
	for i, p := range list {
		s, u := edges[i%len(edges)], edwards.Reduce(drawn(r, 64))
		if !p.Times(s.Add(u)).Equal(p.Times(s).Add(p.Times(u))) || !p.Times(s.Sub(u)).Equal(p.Times(s).Sub(p.Times(u))) {
			t.Errorf("%x: the sum of %x and %x", p.Bytes(), s.Bytes(), u.Bytes())
		}
		if !p.Times(s.Mul(u)).Equal(p.Times(s).Times(u)) || !p.Times(u.Neg()).Equal(p.Times(u).Neg()) {
			t.Errorf("%x: the product of %x and %x", p.Bytes(), s.Bytes(), u.Bytes())
		}
	}
}

// P19.10

func TestOneForm(t *testing.T) {
	for _, p := range pairs(t) {
		for _, a := range forms(t, p) {
			q, e := edwards.Parse(a.Bytes())
			if e != api.OK || !q.Equal(a) || q.Bytes() != a.Bytes() {
				t.Errorf("Parse of the bytes of %x: %x, %v", a.Bytes(), q.Bytes(), e)
			}
		}
	}
	r := rand.New(rand.NewSource(204))
	taken := 0
	for range 200 {
		b := api.Key(drawn(r, 32))
		if p, e := edwards.Parse(b); e == api.OK {
			taken++
			if p.Bytes() != b {
				t.Errorf("the bytes of Parse(%x): %x", b, p.Bytes())
			}
		}
	}
	if taken < 50 || taken > 150 {
		t.Errorf("%d of 200 were taken", taken)
	}
}

// P19.11

func TestTwoDresses(t *testing.T) {
	r := rand.New(rand.NewSource(205))
	for _, u := range liftable(t) {
		n := modP(new(big.Int).SetBit(whole(u[:]), 255, 0))
		for _, odd := range []bool{false, true} {
			p, e := edwards.Lift(u, odd)
			if n.Sign() != 0 && (e == api.OK) != curve.On(u) {
				t.Errorf("Lift(%x, %v): %v", u, odd, e)
			}
			if e != api.OK {
				continue
			}
			k := api.Key(drawn(r, 32))
			c := curve.Clamp(k)
			if got, want := p.Scale(c[:]).U(), curve.Scale(k, u); got != want {
				t.Errorf("the U of %x times Lift(%x, %v): %x, not %x", c, u, odd, got, want)
			}
		}
	}
}
