package edwards_test

import (
	"bytes"
	"crypto/ecdh"
	"crypto/ed25519"
	"crypto/sha512"
	"math/big"
	"math/rand"
	"testing"
	"time"

	"pawl/api"
	"pawl/curve"
	"pawl/edwards"
)

// P19.1

func TestBase(t *testing.T) {
	b := edwards.Base()
	if b.Bytes() != filled(0x58, 0x66, 0x66) || !is(b, base()) || !base().on() {
		t.Errorf("Base: %x", b.Bytes())
	}
	if five := mul(big.NewInt(5), base().y); five.Cmp(big.NewInt(4)) != 0 || base().x.Bit(0) != 0 {
		t.Errorf("5 y: %v", five)
	}
	b.Add(b)
	if edwards.Base() != b {
		t.Error("Base is not always the same")
	}
}

// P19.2, P19.10

func checkParse(t *testing.T, b api.Key) {
	t.Helper()
	y := new(big.Int).SetBit(whole(b[:]), 255, 0)
	want, ok := beside(y, b[31]&0x80 != 0)
	ok = ok && y.Cmp(prime) < 0
	p, e := edwards.Parse(b)
	switch {
	case !ok:
		if e != api.ErrCurve || p != (edwards.Point{}) || !p.IsNeutral() {
			t.Errorf("Parse(%x): %x, %v", b, p.Bytes(), e)
		}
	case e != api.OK || !is(p, want) || p.Bytes() != b || p.U() != want.u():
		t.Errorf("Parse(%x): %x, %v", b, p.Bytes(), e)
	}
}

func TestParse(t *testing.T) {
	r := rand.New(rand.NewSource(193))
	var list []*big.Int
	for i := range int64(40) {
		list = append(list, big.NewInt(i), less(prime, i), less(pow2(255), i+1), whole(drawn(r, 31)))
	}
	for i := range uint(255) {
		list = append(list, pow2(i))
	}
	for _, p := range pairs(t) {
		list = append(list, p.y, minus(new(big.Int), p.y), p.x)
	}
	for _, y := range list {
		checkParse(t, key(y))
		checkParse(t, key(new(big.Int).SetBit(y, 255, 1)))
	}
}

func TestParseExamples(t *testing.T) {
	for _, c := range []struct {
		b    api.Key
		want api.Errno
	}{
		{filled(1, 0, 0), api.OK},
		{filled(1, 0, 0x80), api.ErrCurve},
		{filled(0xec, 0xff, 0x7f), api.OK},
		{filled(0xec, 0xff, 0xff), api.ErrCurve},
		{filled(0xed, 0xff, 0x7f), api.ErrCurve}, // P: another form of 0
		{filled(0xed, 0xff, 0xff), api.ErrCurve},
		{filled(0xee, 0xff, 0x7f), api.ErrCurve}, // P + 1: another form of 1
		{filled(0xff, 0xff, 0xff), api.ErrCurve},
		{filled(0, 0, 0), api.OK},
		{filled(0, 0, 0x80), api.OK},
		{filled(2, 0, 0), api.ErrCurve},
		{filled(2, 0, 0x80), api.ErrCurve},
		{filled(0x58, 0x66, 0x66), api.OK},
		{filled(0x58, 0x66, 0xe6), api.OK},
	} {
		p, e := edwards.Parse(c.b)
		if e != c.want || e == api.OK && p.Bytes() != c.b || e != api.OK && p != (edwards.Point{}) {
			t.Errorf("Parse(%x): %x, %v", c.b, p.Bytes(), e)
		}
	}
	if p, _ := edwards.Parse(filled(0xec, 0xff, 0x7f)); p.IsNeutral() || !p.Double().IsNeutral() || !p.Small() {
		t.Error("the point of order 2")
	}
}

func TestZeroPoint(t *testing.T) {
	var p edwards.Point
	if p.Bytes() != (api.Key{1}) || p.U() != (api.Key{}) || !p.IsNeutral() || !p.Small() || !p.Equal(p) || p.Equal(edwards.Base()) || edwards.Base().Equal(p) {
		t.Error("the zero Point is not the neutral one")
	}
	for _, q := range []edwards.Point{p.Neg(), p.Double(), p.Add(p), p.Sub(p), p.Scale([]byte{5, 6}), p.Times(edwards.Reduce([]byte{7}))} {
		if !q.IsNeutral() || q.Bytes() != (api.Key{1}) {
			t.Errorf("of the zero Point: %x", q.Bytes())
		}
	}
	for _, q := range []edwards.Point{p.Add(edwards.Base()), edwards.Base().Add(p), edwards.Base().Sub(p), p.Sub(edwards.Base()).Neg()} {
		if !is(q, base()) {
			t.Errorf("Base and the zero Point: %x", q.Bytes())
		}
	}
}

// P19.2, P19.5

func TestQuestions(t *testing.T) {
	list := pairs(t)
	var made [][]edwards.Point
	for _, p := range list {
		made = append(made, forms(t, p))
	}
	for i, p := range list {
		small := p.often(big.NewInt(8)).same(neutral())
		for _, a := range made[i] {
			if !is(a, p) || a.U() != p.u() {
				t.Errorf("a form of %x: %x, %x", p.bytes(), a.Bytes(), a.U())
			}
			if a.IsNeutral() != p.same(neutral()) || a.Small() != small {
				t.Errorf("of %x: IsNeutral %v, Small %v", p.bytes(), a.IsNeutral(), a.Small())
			}
			for j, q := range list {
				for _, b := range made[j] {
					if a.Equal(b) != p.same(q) || (a.Bytes() == b.Bytes()) != a.Equal(b) {
						t.Fatalf("Equal of %x and %x: %v", p.bytes(), q.bytes(), a.Equal(b))
					}
				}
			}
		}
	}
}

func TestSmall(t *testing.T) {
	e := eighth(t)
	for i := range int64(8) {
		if p := point(t, e.often(big.NewInt(i))); !p.Small() || p.IsNeutral() != (i == 0) {
			t.Errorf("%d times a point of order 8", i)
		}
		if p := point(t, e.often(big.NewInt(i)).plus(base())); p.Small() || p.IsNeutral() {
			t.Errorf("%d times a point of order 8, and Base", i)
		}
	}
	if edwards.Base().Small() || edwards.Base().Scale([]byte{8}).Small() {
		t.Error("Base is not small")
	}
}

// P19.3

func TestU(t *testing.T) {
	if got := edwards.Base().U(); got != (api.Key{9}) {
		t.Errorf("U of Base: %x", got)
	}
	for b, want := range map[api.Key]api.Key{
		{1}:                      {},  // the neutral one: 0 by the inverse of 0
		filled(0xec, 0xff, 0x7f): {},  // y = -1
		{}:                       {1}, // y = 0
		filled(0, 0, 0x80):       {1},
	} {
		if p, e := edwards.Parse(b); e != api.OK || p.U() != want {
			t.Errorf("U of %x: %x", b, p.U())
		}
	}
}

func checkLift(t *testing.T, u api.Key, odd bool) {
	t.Helper()
	n := modP(new(big.Int).SetBit(whole(u[:]), 255, 0))
	var want pair
	ok := false
	if under := plus(n, big.NewInt(1)); under.Sign() != 0 {
		want, ok = beside(over(less(n, 1), under), odd)
	}
	p, e := edwards.Lift(u, odd)
	if !ok {
		if e != api.ErrCurve || p != (edwards.Point{}) || !p.IsNeutral() {
			t.Errorf("Lift(%x, %v): %x, %v", u, odd, p.Bytes(), e)
		}
		return
	}
	if e != api.OK || !is(p, want) || p.U() != key(n) || (p.Bytes()[31]&0x80 != 0) != odd {
		t.Errorf("Lift(%x, %v): %x, %v, not %x", u, odd, p.Bytes(), e, want.bytes())
	}
	if n.Sign() != 0 && !curve.On(u) {
		t.Errorf("Lift took %x, which is not on the curve", u)
	}
}

// liftable is numbers of layer 2, each in all its forms.
func liftable(t *testing.T) []api.Key {
	r := rand.New(rand.NewSource(194))
	var list []*big.Int
	for i := range int64(24) {
		list = append(list, big.NewInt(i), less(prime, i), whole(drawn(r, 32)))
	}
	for _, p := range pairs(t) {
		u := p.u()
		list = append(list, whole(u[:]))
	}
	var all []api.Key
	for _, n := range list {
		n = modP(n.SetBit(n, 255, 0))
		for _, m := range []*big.Int{n, new(big.Int).Add(n, prime)} {
			if m.Cmp(pow2(255)) < 0 {
				all = append(all, key(m), key(new(big.Int).SetBit(m, 255, 1)))
			}
		}
	}
	return all
}

func TestLift(t *testing.T) {
	for _, u := range liftable(t) {
		checkLift(t, u, false)
		checkLift(t, u, true)
	}
}

func TestLiftExamples(t *testing.T) {
	if p, e := edwards.Lift(api.Key{9}, false); e != api.OK || !p.Equal(edwards.Base()) {
		t.Errorf("Lift(9, false): %x, %v", p.Bytes(), e)
	}
	if p, e := edwards.Lift(api.Key{9}, true); e != api.OK || !p.Equal(edwards.Base().Neg()) {
		t.Errorf("Lift(9, true): %x, %v", p.Bytes(), e)
	}
	if p, e := edwards.Lift(api.Key{}, false); e != api.OK || p.Bytes() != filled(0xec, 0xff, 0x7f) {
		t.Errorf("Lift(0, false): %x, %v", p.Bytes(), e)
	}
	for _, c := range []struct {
		u   api.Key
		odd bool
	}{
		{api.Key{}, true},
		{filled(0xed, 0xff, 0x7f), true},
		{filled(0, 0, 0x80), true},
		{filled(0xec, 0xff, 0x7f), false},
		{filled(0xec, 0xff, 0x7f), true},
		{filled(0xec, 0xff, 0xff), false},
		{api.Key{2}, false},
		{api.Key{2}, true},
	} {
		if p, e := edwards.Lift(c.u, c.odd); e != api.ErrCurve || p != (edwards.Point{}) {
			t.Errorf("Lift(%x, %v): %x, %v", c.u, c.odd, p.Bytes(), e)
		}
	}
}

// P19.4

func TestSums(t *testing.T) {
	list := pairs(t)
	for i, p := range list {
		made := forms(t, p)
		for j, q := range list {
			a := made[j%len(made)]
			others := forms(t, q)
			b := others[i%len(others)]
			if got := a.Add(b); !is(got, p.plus(q)) {
				t.Errorf("%x and %x: %x", p.bytes(), q.bytes(), got.Bytes())
			}
			if got := a.Sub(b); !is(got, p.plus(q.opposite())) {
				t.Errorf("%x less %x: %x", p.bytes(), q.bytes(), got.Bytes())
			}
		}
		for _, a := range made {
			if !is(a.Neg(), p.opposite()) || !is(a.Double(), p.plus(p)) {
				t.Errorf("of %x: the opposite %x, the double %x", p.bytes(), a.Neg().Bytes(), a.Double().Bytes())
			}
		}
	}
}

func TestScaleOfEdges(t *testing.T) {
	list := pairs(t)
	for i, n := range numbers() {
		for j := range 2 {
			p := list[(7*i+11*j)%len(list)]
			made := forms(t, p)
			want := p.often(n)
			for _, k := range [][]byte{lowest(n), append(lowest(n), 0), append(lowest(n), make([]byte, 9)...)} {
				if got := made[i%len(made)].Scale(k); !is(got, want) {
					t.Errorf("%x taken %x times: %x, not %x", p.bytes(), k, got.Bytes(), want.bytes())
				}
			}
		}
	}
}

func TestScaleOfFew(t *testing.T) {
	for _, p := range pairs(t)[6:18] {
		a, want := point(t, p), neutral()
		if !a.Scale(nil).IsNeutral() || !a.Scale([]byte{}).IsNeutral() {
			t.Errorf("no times %x", p.bytes())
		}
		for n := range 300 {
			if got := a.Scale([]byte{byte(n), byte(n >> 8)}); !is(got, want) {
				t.Fatalf("%d times %x: %x", n, p.bytes(), got.Bytes())
			}
			want = want.plus(p)
		}
	}
}

func TestScaleOfLong(t *testing.T) {
	r := rand.New(rand.NewSource(195))
	list := pairs(t)
	for _, n := range []int{1, 2, 31, 32, 33, 63, 64, 65, 200, 1000} {
		k := drawn(r, n)
		p := list[n%len(list)]
		least := new(big.Int).Mod(whole(k), new(big.Int).Lsh(order, 3))
		if got := point(t, p).Scale(k); !is(got, p.often(least)) {
			t.Errorf("%x taken as often as %d bytes say: %x", p.bytes(), n, got.Bytes())
		}
	}
}

func TestTimes(t *testing.T) {
	list := pairs(t)
	whole, made := below(t)
	for i, s := range made {
		p := list[i*5%len(list)]
		k := s.Bytes()
		got := point(t, p).Times(s)
		if !is(got, p.often(whole[i])) || !got.Equal(point(t, p).Scale(k[:])) {
			t.Errorf("%x times %x: %x", k, p.bytes(), got.Bytes())
		}
	}
}

func TestScaleKeepsItsBytes(t *testing.T) {
	room := []byte{5, 1, 7, 9, 9, 9}
	first := edwards.Base().Scale(room[:2])
	if !bytes.Equal(room, []byte{5, 1, 7, 9, 9, 9}) {
		t.Errorf("the bytes are now %x", room)
	}
	room[0] = 6
	if !is(first, base().often(big.NewInt(261))) || !is(edwards.Base().Scale(room[:2]), base().often(big.NewInt(262))) {
		t.Error("the bytes were kept")
	}
}

// quickest is the least time that a multiple took.
func quickest(p edwards.Point, k []byte) time.Duration {
	best := time.Hour
	for range 12 {
		start := time.Now()
		p.Scale(k)
		best = min(best, time.Since(start))
	}
	return best
}

// Work that hung on the bits would double from zeros to ones, or from the neutral point to another one; work that grew faster than the length would be four times as much for twice the bytes. A busy machine may spoil a try, so there are some.
func TestScaleWork(t *testing.T) {
	zeros, ones, twice := make([]byte, 64), bytes.Repeat([]byte{0xff}, 64), make([]byte, 128)
	p := edwards.Base()
	for range 10 {
		z, o, w := quickest(p, zeros), quickest(p, ones), quickest(p, twice)
		none := quickest(edwards.Point{}, ones)
		if o < z*3/2 && z < o*3/2 && none < o*3/2 && o < none*3/2 && w < z*3 && w > z*3/2 {
			return
		}
	}
	t.Error("the work of Scale does not grow with the length alone")
}

// The library's keys and signatures are multiples of Base.
func TestAgainstTheLibrary(t *testing.T) {
	r := rand.New(rand.NewSource(196))
	for range 12 {
		seed, message := drawn(r, 32), drawn(r, 20)
		private := ed25519.NewKeyFromSeed(seed)
		all := sha512.Sum512(seed)
		k := curve.Clamp(api.Key(all[:32]))
		public := edwards.Base().Scale(k[:])
		if b := public.Bytes(); !bytes.Equal(b[:], private[32:]) {
			t.Fatalf("the public key of %x: %x", seed, b)
		}
		if !edwards.Base().Times(edwards.Reduce(k[:])).Equal(public) {
			t.Errorf("Times of %x", k)
		}
		signature := ed25519.Sign(private, message)
		challenge := sha512.Sum512(append(append(append([]byte{}, signature[:32]...), private[32:]...), message...))
		s, e := edwards.Whole(api.Key(signature[32:]))
		got := edwards.Base().Times(s).Sub(public.Times(edwards.Reduce(challenge[:]))).Bytes()
		if e != api.OK || !bytes.Equal(got[:], signature[:32]) {
			t.Errorf("the signature %x: %x, %v", signature, got, e)
		}
		agreed, err := ecdh.X25519().NewPrivateKey(seed)
		if err != nil {
			t.Fatal(err)
		}
		c := curve.Clamp(api.Key(seed))
		if u := edwards.Base().Scale(c[:]).U(); !bytes.Equal(u[:], agreed.PublicKey().Bytes()) {
			t.Errorf("the number of %x: %x", seed, u)
		}
	}
}
