package field_test

import (
	"bytes"
	"math/big"
	"math/rand"
	"slices"
	"testing"
	"time"

	"pawl/api"
	"pawl/field"
)

// The tests hold the field against whole numbers of math/big, taken modulo P.

var prime = less(pow2(255), 19)

func pow2(n uint) *big.Int                    { return new(big.Int).Lsh(big.NewInt(1), n) }
func plus(a *big.Int, n int64) *big.Int       { return new(big.Int).Add(a, big.NewInt(n)) }
func less(a *big.Int, n int64) *big.Int       { return new(big.Int).Sub(a, big.NewInt(n)) }
func modP(a *big.Int) *big.Int                { return new(big.Int).Mod(a, prime) }
func half(a *big.Int) *big.Int                { return new(big.Int).Rsh(a, 1) }
func toPower(a, e *big.Int) *big.Int          { return new(big.Int).Exp(a, e, prime) }
func number(a field.Num) *big.Int             { return whole(a.Bytes()) }
func same(a field.Num, want *big.Int) bool    { return number(a).Cmp(modP(want)) == 0 }
func made(n *big.Int) field.Num               { return field.From(key(modP(n))) }
func hex(n *big.Int) string                   { return modP(n).Text(16) }
func power(a field.Num, e *big.Int) field.Num { return a.Power(lowest(e)) }

// lowest is a number's bytes, the lowest first.
func lowest(n *big.Int) []byte {
	b := n.Bytes()
	slices.Reverse(b)
	return b
}

// whole is the number that a key's bytes say, all 256 bits of them.
func whole(k api.Key) *big.Int {
	slices.Reverse(k[:])
	return new(big.Int).SetBytes(k[:])
}

// key is a number below 2^256 as bytes.
func key(n *big.Int) api.Key {
	var k api.Key
	copy(k[:], lowest(n))
	return k
}

// edges are numbers at which a carry or the prime shows, and some without any plan.
func edges() []*big.Int {
	list := []*big.Int{
		new(big.Int), big.NewInt(1), big.NewInt(2), big.NewInt(3), big.NewInt(18), big.NewInt(19), big.NewInt(20), big.NewInt(486662),
		less(prime, 1), less(prime, 2), less(prime, 18), less(prime, 19), less(prime, 20),
		half(prime), plus(half(prime), 1), pow2(254), less(pow2(254), 1), less(pow2(64), 1),
		toPower(big.NewInt(2), new(big.Int).Rsh(prime, 2)), // its square is -1
	}
	for i := uint(1); i < 5; i++ {
		list = append(list, pow2(51*i), less(pow2(51*i), 1), pow2(64*i-2), new(big.Int).Sub(prime, pow2(51*i)))
	}
	r := rand.New(rand.NewSource(1))
	for range 12 {
		list = append(list, new(big.Int).Rand(r, prime))
	}
	return list
}

// forms are the values of edges, each come by in several ways, so that what a Num keeps inside differs.
func forms() []field.Num {
	var list []field.Num
	for i, n := range edges() {
		a := made(n)
		switch i % 4 {
		case 1:
			a = made(plus(n, 7)).Sub(field.Small(7))
		case 2:
			a = made(less(n, 1<<40)).Add(field.Small(1 << 40))
		case 3:
			a = a.Neg().Times(1<<32 - 1).Mul(field.Small(1<<32 - 1).Invert()).Neg()
		}
		list = append(list, a)
	}
	return list
}

func TestFormsAreEdges(t *testing.T) {
	list := forms()
	for i, n := range edges() {
		if !same(list[i], n) {
			t.Errorf("form %d: %x, not %s", i, number(list[i]), hex(n))
		}
	}
}

// P1.1

func TestFrom(t *testing.T) {
	check := func(b api.Key) {
		t.Helper()
		want := whole(b)
		want.SetBit(want, 255, 0)
		if got := field.From(b); !same(got, want) {
			t.Errorf("From(%x): %x", b, got.Bytes())
		}
	}
	for i := range 256 {
		check(key(pow2(uint(i))))
		check(key(less(pow2(256), 1).SetBit(less(pow2(256), 1), i, 0)))
	}
	for _, n := range edges() {
		check(key(n))
		check(key(new(big.Int).Add(n, pow2(255))))
	}
	r := rand.New(rand.NewSource(2))
	for range 1000 {
		check(key(new(big.Int).Rand(r, pow2(256))))
	}
}

func TestFromOfTheNineteen(t *testing.T) {
	for i := range 19 {
		for _, top := range []byte{0, 0x80} {
			b := key(plus(prime, int64(i)))
			b[31] |= top
			if got := field.From(b).Bytes(); got != (api.Key{byte(i)}) {
				t.Errorf("P + %d (%x): %x", i, b, got)
			}
		}
	}
	if got := field.From(api.Key{31: 0x80}).Bytes(); got != (api.Key{}) {
		t.Errorf("the highest bit alone: %x", got)
	}
}

func TestSmall(t *testing.T) {
	list := []uint64{0, 1, 2, 19, 1<<51 - 1, 1 << 51, 1<<51 + 1, 1<<52 - 1, 1 << 63, 1<<64 - 1, 0x0123456789abcdef}
	for _, n := range list {
		x := new(big.Int).SetUint64(n)
		a := field.Small(n)
		if !same(a, x) {
			t.Errorf("Small(%d): %x", n, a.Bytes())
		}
		if got := a.Neg(); !same(got, new(big.Int).Neg(x)) {
			t.Errorf("- Small(%d): %x", n, got.Bytes())
		}
		for _, m := range list {
			y := new(big.Int).SetUint64(m)
			b := field.Small(m)
			if !same(a.Sub(b), new(big.Int).Sub(x, y)) || !same(a.Mul(b), new(big.Int).Mul(x, y)) {
				t.Errorf("Small(%d) and Small(%d): %x, %x", n, m, a.Sub(b).Bytes(), a.Mul(b).Bytes())
			}
		}
	}
}

// P1.2

func TestBytesAreBelowP(t *testing.T) {
	list := forms()
	for _, a := range list {
		for _, b := range list {
			for _, c := range []field.Num{a.Add(b), a.Sub(b), a.Mul(b), a.Neg(), a.Square()} {
				if k := c.Bytes(); k[31] > 0x7f || whole(k).Cmp(prime) >= 0 {
					t.Fatalf("Bytes: %x", k)
				}
			}
		}
	}
}

func TestBytesOfOneValue(t *testing.T) {
	for i, a := range forms() {
		for j, b := range forms() {
			if alike := a.Bytes() == b.Bytes(); alike != (edges()[i].Cmp(edges()[j]) == 0) {
				t.Fatalf("%x and %x", a.Bytes(), b.Bytes())
			}
		}
	}
	var none field.Num
	if none.Bytes() != (api.Key{}) {
		t.Errorf("the zero Num: %x", none.Bytes())
	}
}

// P1.3

func TestSumsAndProducts(t *testing.T) {
	list, numbers := forms(), edges()
	for i, a := range list {
		for j, b := range list {
			x, y := numbers[i], numbers[j]
			for _, c := range []struct {
				name string
				got  field.Num
				want *big.Int
			}{
				{"plus", a.Add(b), new(big.Int).Add(x, y)},
				{"minus", a.Sub(b), new(big.Int).Sub(x, y)},
				{"times", a.Mul(b), new(big.Int).Mul(x, y)},
			} {
				if !same(c.got, c.want) {
					t.Fatalf("%s %s %s: %x, not %s", hex(x), c.name, hex(y), c.got.Bytes(), hex(c.want))
				}
			}
		}
	}
}

func TestOppositesSquaresMultiples(t *testing.T) {
	for i, a := range forms() {
		x := edges()[i]
		if got := a.Neg(); !same(got, new(big.Int).Neg(x)) {
			t.Errorf("- %s: %x", hex(x), got.Bytes())
		}
		if got := a.Square(); !same(got, new(big.Int).Mul(x, x)) {
			t.Errorf("%s squared: %x", hex(x), got.Bytes())
		}
		for _, n := range []uint32{0, 1, 2, 19, 121665, 1 << 31, 1<<32 - 2, 1<<32 - 1} {
			if got := a.Times(n); !same(got, new(big.Int).Mul(x, big.NewInt(int64(n)))) {
				t.Errorf("%s times %d: %x", hex(x), n, got.Bytes())
			}
		}
	}
	var none field.Num
	if !none.Neg().IsZero() || !none.Add(none).IsZero() || !none.Mul(field.Small(5)).IsZero() {
		t.Error("the zero Num does not reckon as 0")
	}
}

func TestManyInARow(t *testing.T) {
	list, numbers := forms(), edges()
	r := rand.New(rand.NewSource(3))
	a, x := field.Small(2), big.NewInt(2)
	for i := range 20000 {
		j, n := r.Intn(len(list)), r.Uint32()|1
		b, y := list[j], numbers[j]
		step := r.Intn(7)
		switch {
		case step == 0:
			a, x = a.Add(b), new(big.Int).Add(x, y)
		case step == 1:
			a, x = a.Sub(b), new(big.Int).Sub(x, y)
		case step == 2:
			a, x = b.Sub(a), new(big.Int).Sub(y, x)
		case step == 3 && y.Sign() > 0:
			a, x = a.Mul(b), new(big.Int).Mul(x, y)
		case step == 4:
			a, x = a.Square(), new(big.Int).Mul(x, x)
		case step == 5:
			a, x = a.Times(n), new(big.Int).Mul(x, big.NewInt(int64(n)))
		default:
			a, x = a.Neg(), new(big.Int).Neg(x)
		}
		x = modP(x)
		if !same(a, x) {
			t.Fatalf("step %d (%d): %x, not %s", i, step, a.Bytes(), hex(x))
		}
	}
}

// One and the same step over and over, without a look in between: what is carried must not pile up.
func TestOneStepManyTimes(t *testing.T) {
	const times = 5000
	for i, start := range forms() {
		x := edges()[i]
		sum, gap, multiple, product := start, start, start, start
		for range times {
			sum, gap, multiple, product = sum.Add(start), gap.Sub(start), multiple.Times(1<<32-1), product.Mul(start)
		}
		n := big.NewInt(1<<32 - 1)
		for _, c := range []struct {
			name string
			got  field.Num
			want *big.Int
		}{
			{"sums", sum, new(big.Int).Mul(x, big.NewInt(times+1))},
			{"differences", gap, new(big.Int).Mul(x, big.NewInt(1-times))},
			{"multiples", multiple, new(big.Int).Mul(x, toPower(n, big.NewInt(times)))},
			{"products", product, toPower(x, big.NewInt(times+1))},
		} {
			if !same(c.got, c.want) {
				t.Errorf("%s of %s: %x, not %s", c.name, hex(x), c.got.Bytes(), hex(c.want))
			}
		}
	}
	a := field.Small(0).Sub(field.Small(1))
	for range times {
		a = a.Add(a)
	}
	if !same(a, new(big.Int).Neg(pow2(times))) {
		t.Errorf("-1 doubled: %x", a.Bytes())
	}
}

// P1.4

func TestPower(t *testing.T) {
	r := rand.New(rand.NewSource(4))
	long := make([]byte, 100)
	r.Read(long)
	exponents := [][]byte{nil, {}, {0}, {0, 0, 0}, {1}, {1, 0}, {2}, {5, 0}, {0x80}, {0xff}, {0, 1}, {0x34, 0x12}, lowest(prime), lowest(less(prime, 1)), lowest(less(prime, 2)), lowest(less(pow2(256), 1)), bytes.Repeat([]byte{0xff}, 40), long}
	for i, a := range forms() {
		for _, e := range exponents {
			high := bytes.Clone(e)
			slices.Reverse(high)
			want := toPower(edges()[i], new(big.Int).SetBytes(high))
			if got := a.Power(e); !same(got, want) {
				t.Errorf("%s to the power of %x: %x, not %s", hex(edges()[i]), e, got.Bytes(), hex(want))
			}
		}
	}
	var none field.Num
	if !same(none.Power(nil), big.NewInt(1)) || !same(none.Power([]byte{0}), big.NewInt(1)) || !none.Power([]byte{0, 1}).IsZero() {
		t.Error("powers of the zero Num")
	}
}

func TestPowerLeavesItsArgument(t *testing.T) {
	room := []byte{5, 0, 7, 9, 9, 9}
	first := field.Small(3).Power(room[:2])
	if !bytes.Equal(room, []byte{5, 0, 7, 9, 9, 9}) {
		t.Errorf("the bytes are now %x", room)
	}
	room[0] = 6
	if !same(first, big.NewInt(243)) || !same(field.Small(3).Power(room[:2]), big.NewInt(729)) {
		t.Error("the bytes were kept")
	}
}

// quickest is the least time that a power took.
func quickest(a field.Num, e []byte) time.Duration {
	best := time.Hour
	for range 20 {
		start := time.Now()
		a.Power(e)
		best = min(best, time.Since(start))
	}
	return best
}

// Work that hung on the bits would double from zeros to ones, or from a small number to a great one; work that grew faster than the length would be four times as much for twice the bytes. A busy machine may spoil a try, so there are some.
func TestPowerWork(t *testing.T) {
	zeros, ones, twice := make([]byte, 256), bytes.Repeat([]byte{0xff}, 256), make([]byte, 512)
	a := made(half(prime))
	for range 10 {
		z, o, w := quickest(a, zeros), quickest(a, ones), quickest(a, twice)
		tiny := quickest(field.Small(0), ones)
		if o < z*3/2 && z < o*3/2 && tiny < o*3/2 && o < tiny*3/2 && w < z*3 {
			return
		}
	}
	t.Error("the work of Power does not grow with the length alone")
}

// P1.5

func TestInvert(t *testing.T) {
	for i, a := range forms() {
		want := new(big.Int)
		if x := edges()[i]; x.Sign() != 0 {
			want.ModInverse(x, prime)
		}
		if got := a.Invert(); !same(got, want) {
			t.Errorf("1 / %s: %x, not %s", hex(edges()[i]), got.Bytes(), hex(want))
		}
	}
	if got := field.From(key(prime)).Invert(); !got.IsZero() {
		t.Errorf("the inverse of 0, as P: %x", got.Bytes())
	}
	if got := field.Small(2).Invert(); !same(got, less(pow2(254), 9)) {
		t.Errorf("1 / 2: %x", got.Bytes())
	}
}

// P1.6

func TestRoot(t *testing.T) {
	for i, a := range forms() {
		want := new(big.Int).ModSqrt(edges()[i], prime)
		got, ok := a.Root()
		if want == nil {
			if ok || got.Bytes() != (api.Key{}) {
				t.Errorf("the root of %s: %x, %v", hex(edges()[i]), got.Bytes(), ok)
			}
			continue
		}
		if want.Bit(0) == 1 {
			want.Sub(prime, want)
		}
		if !ok || !same(got, want) || got.Bytes()[0]&1 != 0 {
			t.Errorf("the root of %s: %x, %v, not %s", hex(edges()[i]), got.Bytes(), ok, hex(want))
		}
	}
}

func TestRootsThatAreKnown(t *testing.T) {
	for _, c := range []struct {
		a, want *big.Int
		ok      bool
	}{
		{new(big.Int), new(big.Int), true},
		{prime, new(big.Int), true}, // 0 again
		{big.NewInt(1), less(prime, 1), true},
		{big.NewInt(4), big.NewInt(2), true},
		{big.NewInt(9), less(prime, 3), true},
		{big.NewInt(16), big.NewInt(4), true},
		{big.NewInt(2), new(big.Int), false},
		{less(prime, 2), new(big.Int), false}, // -2
		{big.NewInt(8), new(big.Int), false},
	} {
		got, ok := field.From(key(c.a)).Root()
		if ok != c.ok || !same(got, c.want) {
			t.Errorf("the root of %s: %x, %v", hex(c.a), got.Bytes(), ok)
		}
	}
}

// P1.7

func TestQuestions(t *testing.T) {
	list, numbers := forms(), edges()
	for i, a := range list {
		for j, b := range list {
			if a.Equal(b) != (numbers[i].Cmp(numbers[j]) == 0) {
				t.Fatalf("Equal of %s and %s", hex(numbers[i]), hex(numbers[j]))
			}
		}
		if !a.Equal(made(numbers[i])) {
			t.Errorf("Equal of two forms of %s", hex(numbers[i]))
		}
		if a.IsZero() != (numbers[i].Sign() == 0) {
			t.Errorf("IsZero of %s", hex(numbers[i]))
		}
		if a.Odd() != (numbers[i].Bit(0) == 1) {
			t.Errorf("Odd of %s", hex(numbers[i]))
		}
	}
}

func TestQuestionsOfTheNineteen(t *testing.T) {
	for i := range uint64(19) {
		a := field.From(key(plus(prime, int64(i))))
		if !a.Equal(field.Small(i)) || !field.Small(i).Equal(a) || a.Equal(field.Small(i+1)) {
			t.Errorf("Equal of P + %d", i)
		}
		if a.IsZero() != (i == 0) || a.Odd() != (i%2 == 1) {
			t.Errorf("IsZero or Odd of P + %d", i)
		}
	}
	var none field.Num
	if !none.Equal(field.Small(0)) || !none.IsZero() || none.Odd() {
		t.Error("the zero Num")
	}
}

// P1.8

func TestSwap(t *testing.T) {
	list, numbers := forms(), edges()
	for i, a := range list {
		for j, b := range list {
			c, d := field.Swap(a, b, true)
			e, f := field.Swap(a, b, false)
			if !same(c, numbers[j]) || !same(d, numbers[i]) || !same(e, numbers[i]) || !same(f, numbers[j]) {
				t.Fatalf("Swap of %s and %s", hex(numbers[i]), hex(numbers[j]))
			}
		}
	}
}

// P1.9

func TestRing(t *testing.T) {
	list := forms()
	one, zero := field.Small(1), field.Small(0)
	hold := func(name string, a, b field.Num) {
		t.Helper()
		if !a.Equal(b) {
			t.Errorf("%s: %x and %x", name, a.Bytes(), b.Bytes())
		}
	}
	for i, a := range list {
		hold("the opposite", a.Add(a.Neg()), zero)
		hold("0", a.Add(zero), a)
		hold("times 0", a.Mul(zero), zero)
		hold("1", a.Mul(one), a)
		for j, b := range list {
			hold("order of a sum", a.Add(b), b.Add(a))
			hold("order of a product", a.Mul(b), b.Mul(a))
			hold("difference", a.Sub(b), a.Add(b.Neg()))
			c := list[(i+j*j+1)%len(list)]
			hold("three in a sum", a.Add(b).Add(c), a.Add(b.Add(c)))
			hold("three in a product", a.Mul(b).Mul(c), a.Mul(b.Mul(c)))
			hold("a product of a sum", a.Mul(b.Add(c)), a.Mul(b).Add(a.Mul(c)))
		}
	}
}

// P1.10

func TestField(t *testing.T) {
	list := forms()
	one := field.Small(1)
	for _, a := range list {
		if got := a.Invert().Invert(); !got.Equal(a) {
			t.Errorf("the inverse's inverse of %x: %x", a.Bytes(), got.Bytes())
		}
		if got := a.Mul(a.Invert()); !got.Equal(one) && !a.IsZero() {
			t.Errorf("%x with its inverse: %x", a.Bytes(), got.Bytes())
		}
		if !power(a, less(prime, 2)).Equal(a.Invert()) || !power(a, prime).Equal(a) {
			t.Errorf("the powers of %x", a.Bytes())
		}
		for _, b := range list {
			if a.Mul(b).IsZero() != (a.IsZero() || b.IsZero()) {
				t.Errorf("%x times %x", a.Bytes(), b.Bytes())
			}
		}
	}
}

// P1.11

func TestRootsOfSquares(t *testing.T) {
	var without []field.Num
	for _, a := range append(forms(), field.Small(2)) {
		square := a.Square()
		if r, ok := square.Root(); !ok || !r.Square().Equal(square) || r.Odd() || !r.Equal(a) && !r.Equal(a.Neg()) {
			t.Errorf("the root of %x squared: %x, %v", a.Bytes(), r.Bytes(), ok)
		}
		r, ok := a.Root()
		if ok != (a.IsZero() || power(a, half(prime)).Equal(field.Small(1))) {
			t.Errorf("whether %x has a root: %v", a.Bytes(), ok)
		}
		if ok && !r.Square().Equal(a) {
			t.Errorf("the root of %x: %x", a.Bytes(), r.Bytes())
		}
		if !ok {
			without = append(without, a)
		}
	}
	if len(without) < 5 {
		t.Fatalf("only %d without a root", len(without))
	}
	for _, a := range without {
		for _, b := range without {
			if _, ok := a.Mul(b).Root(); !ok {
				t.Errorf("%x times %x has no root", a.Bytes(), b.Bytes())
			}
		}
	}
}

// P1.12

func TestOneForm(t *testing.T) {
	for i, a := range forms() {
		if got := field.From(a.Bytes()); !got.Equal(a) || got.Bytes() != a.Bytes() {
			t.Errorf("From of Bytes of %x: %x", a.Bytes(), got.Bytes())
		}
		if b := key(edges()[i]); field.From(b).Bytes() != b {
			t.Errorf("Bytes of From of %x: %x", b, field.From(b).Bytes())
		}
	}
	r := rand.New(rand.NewSource(5))
	for range 1000 {
		if b := key(new(big.Int).Rand(r, prime)); field.From(b).Bytes() != b {
			t.Errorf("Bytes of From of %x: %x", b, field.From(b).Bytes())
		}
	}
}

// The document's example 2: the bytes of P1.3's greatest multiple of a Small.
func TestProductOfGreatestSmalls(t *testing.T) {
	want := api.Key{1, 0, 0, 0, 0xff, 0xff, 0xff, 0xff, 0xfe, 0xff, 0xff, 0xff}
	if got := field.Small(1<<64 - 1).Times(1<<32 - 1).Bytes(); got != want {
		t.Errorf("%x", got)
	}
}
