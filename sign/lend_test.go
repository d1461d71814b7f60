package sign_test

import (
	"bytes"
	"crypto/ecdh"
	"crypto/ed25519"
	"math/big"
	"math/rand"
	"slices"
	"testing"

	"pawl/api"
	"pawl/curve"
	"pawl/edwards"
	"pawl/sign"
)

// lending signs, and ends the test if that is refused.
func lending(t testing.TB, k api.Key, b, random []byte) api.Signature {
	t.Helper()
	s, e := sign.Lend(k, b, random)
	if e != api.OK {
		t.Fatalf("Lend(%x, %x, %x): %v", k, b, random, e)
	}
	return s
}

// privates is the edges of private keys, and some that were drawn.
func privates() []api.Key {
	r := rand.New(rand.NewSource(205))
	list := []api.Key{{}, {1}, {7}, {8}, filled(0xff, 0xff, 0xff), filled(0, 0, 0x40), filled(0, 0, 0x80), filled(0xf8, 0xff, 0x7f)}
	for range 20 {
		list = append(list, api.Key(drawn(r, 32)))
	}
	return list
}

// lentWords is P20.4, done by great numbers; and whether E's x was odd.
func lentWords(k api.Key, b, random []byte) (api.Signature, bool) {
	a := clamped(k[:])
	p := base().often(a)
	a = modL(a)
	odd := p.x.Bit(0) == 1
	if odd {
		a, p = modL(new(big.Int).Neg(a)), p.opposite()
	}
	secret := key(a)
	ahead := append([]byte{0xfe}, bytes.Repeat([]byte{0xff}, 31)...)
	return made(a, hashed(ahead, secret[:], b, random), p.bytes(), b), odd
}

func TestLendWords(t *testing.T) {
	r := rand.New(rand.NewSource(206))
	var odds, evens int
	for i, k := range privates() {
		b, random := drawn(r, 7*i), drawn(r, 64)
		if i%4 == 0 {
			random = bytes.Repeat([]byte{byte(i)}, 64)
		}
		want, odd := lentWords(k, b, random)
		if got := lending(t, k, b, random); got != want {
			t.Errorf("Lend(%x, %x, %x): %x, not %x", k, b, random, got, want)
		}
		if odd {
			odds++
		} else {
			evens++
		}
	}
	if odds < 5 || evens < 5 {
		t.Errorf("%d odd, %d even", odds, evens)
	}
}

// TestLent is P20.7, with public keys of Go's own X25519 too.
func TestLent(t *testing.T) {
	r := rand.New(rand.NewSource(207))
	for i, k := range privates() {
		b, random := drawn(r, 5*i), drawn(r, 64)
		s := lending(t, k, b, random)
		theirs, err := ecdh.X25519().NewPrivateKey(k[:])
		if err != nil {
			t.Fatal(err)
		}
		for _, public := range []api.Key{curve.Public(k), api.Key(theirs.PublicKey().Bytes())} {
			if e := sign.Honour(public, b, s); e != api.OK {
				t.Errorf("Honour(%x, %x, %x): %v", public, b, s, e)
			}
		}
	}
}

// TestLentByOthers: what was lent is an ordinary signature by the even point, so that Go's own check takes it.
func TestLentByOthers(t *testing.T) {
	for _, k := range privates() {
		s := lending(t, k, []byte("text"), make([]byte, 64))
		p, e := edwards.Lift(curve.Public(k), false)
		if e != api.OK {
			t.Fatalf("Lift: %v", e)
		}
		public := p.Bytes()
		if !ed25519.Verify(public[:], []byte("text"), s[:]) || sign.Check(public, []byte("text"), s) != api.OK {
			t.Errorf("key %x: %x", k, s)
		}
	}
}

// TestClampedLends: a private key and its clamped form are one.
func TestClampedLends(t *testing.T) {
	for _, k := range privates() {
		if a, b := lending(t, k, nil, make([]byte, 64)), lending(t, curve.Clamp(k), nil, make([]byte, 64)); a != b {
			t.Errorf("%x: %x, %x", k, a, b)
		}
	}
}

func TestLendSizes(t *testing.T) {
	for n := range 130 {
		s, e := sign.Lend(api.Key{3}, []byte("text"), make([]byte, n))
		if n == 64 {
			if e != api.OK || s == (api.Signature{}) {
				t.Errorf("64 bytes of chance: %v", e)
			}
			continue
		}
		if e != api.ErrSize || s != (api.Signature{}) {
			t.Errorf("%d bytes of chance: %x, %v", n, s, e)
		}
	}
	if _, e := sign.Lend(api.Key{}, nil, nil); e != api.ErrSize {
		t.Errorf("no chance: %v", e)
	}
}

// TestChanceShows: each byte of the chance, of the bytes and of the key gives another R.
func TestChanceShows(t *testing.T) {
	k, b, random := api.Key{1, 2, 3}, []byte("text"), make([]byte, 64)
	seen := map[[32]byte]int{}
	note := func(k api.Key, b, random []byte) {
		s := lending(t, k, b, random)
		seen[[32]byte(s[:32])]++
	}
	note(k, b, random)
	for i := range random {
		other := slices.Clone(random)
		other[i] = 1
		note(k, b, other)
	}
	for i := range b {
		other := slices.Clone(b)
		other[i] ^= 1
		note(k, other, random)
	}
	for i := range k {
		other := k
		other[i] ^= 8
		note(other, b, random)
	}
	if want := 1 + len(random) + len(b) + len(k); len(seen) != want {
		t.Errorf("%d of %d", len(seen), want)
	}
}

func TestHonourExamples(t *testing.T) {
	var one api.Signature
	one[0] = 1
	beyond := with(one, key(order))
	for _, c := range []struct {
		u    api.Key
		want api.Errno
	}{
		{filled(0xed, 0xff, 0x7f), api.ErrCurve}, // 0 in another form
		{api.Key{}, api.ErrSmall},
		{filled(0xec, 0xff, 0x7f), api.ErrCurve}, // -1
		{api.Key{2}, api.ErrCurve},               // of the twist
		{api.Key{1}, api.ErrSmall},
		{filled(0, 0, 0x80), api.ErrCurve},
		{filled(9, 0, 0x80), api.ErrCurve},
		{filled(0xf6, 0xff, 0x7f), api.ErrCurve}, // 9 in another form
		{filled(0xee, 0xff, 0x7f), api.ErrCurve}, // 1 in another form
		{filled(0xff, 0xff, 0xff), api.ErrCurve},
	} {
		for _, s := range []api.Signature{{}, one, beyond} {
			if e := sign.Honour(c.u, nil, s); e != c.want {
				t.Errorf("Honour(%x, %x): %v, not %v", c.u, s, e, c.want)
			}
		}
	}
}

// TestHonourBase: with the base point's number the signature decides; the private number 1 signs for it.
func TestHonourBase(t *testing.T) {
	u, b := api.Key{9}, []byte("text")
	s := made(big.NewInt(1), big.NewInt(77), base().bytes(), b)
	if base().u() != u {
		t.Fatal("9 is not the base point's number")
	}
	for _, c := range []struct {
		s    api.Signature
		want api.Errno
	}{
		{s, api.OK},
		{with(s, key(order)), api.ErrScalar},
		{with(s, filled(0xff, 0xff, 0xff)), api.ErrScalar},
		{with(s, api.Key{}), api.ErrSignature},
		{api.Signature{}, api.ErrSignature},
	} {
		if e := sign.Honour(u, b, c.s); e != c.want {
			t.Errorf("Honour(9, %x): %v, not %v", c.s, e, c.want)
		}
	}
	odd := made(less(order, 1), big.NewInt(77), base().opposite().bytes(), b)
	if e := sign.Honour(u, b, odd); e != api.ErrSignature {
		t.Errorf("signed by the opposite point: %v", e)
	}
}

// TestHonourSmall: all numbers whose points are small, by either of the two.
func TestHonourSmall(t *testing.T) {
	for i, p := range smalls(t) {
		u := p.u()
		want := api.ErrSmall
		if _, e := edwards.Lift(u, false); e != api.OK {
			want = api.ErrCurve
		}
		if e := sign.Honour(u, nil, api.Signature{}); e != want {
			t.Errorf("small point %d, %x: %v, not %v", i, u, e, want)
		}
	}
}

// TestTwoDresses is P20.9: Honour is Check of the even point's bytes, at signatures that hold and at others, for points of all kinds.
func TestTwoDresses(t *testing.T) {
	a, r := big.NewInt(424243), big.NewInt(1000003)
	seen := map[api.Errno]int{}
	for i, small := range smalls(t) {
		p := base().often(a).plus(small)
		sum := a
		if p.x.Bit(0) == 1 {
			p, sum = p.opposite(), modL(new(big.Int).Neg(a))
		}
		for n := range 10 {
			b := []byte{byte(n), byte(i)}
			s := made(sum, r, p.bytes(), b)
			for _, s := range []api.Signature{s, with(s, key(order)), with(s, api.Key{4})} {
				e := sign.Honour(p.u(), b, s)
				if want := sign.Check(p.bytes(), b, s); e != want {
					t.Errorf("small point %d, %x: %v, not %v", i, s, e, want)
				}
				seen[e]++
			}
		}
	}
	if seen[api.OK] < 10 || seen[api.ErrScalar] < 80 || seen[api.ErrSignature] < 80 {
		t.Errorf("answers: %v", seen)
	}
}

// TestDrawnNumbers: of numbers that were drawn about one half is of the twist; each is answered as Lift and Check say.
func TestDrawnNumbers(t *testing.T) {
	r := rand.New(rand.NewSource(208))
	seen := map[api.Errno]int{}
	for range 60 {
		u := api.Key(drawn(r, 32))
		u[31] &= 0x7f
		want := api.ErrCurve
		if p, e := edwards.Lift(u, false); e == api.OK {
			want = sign.Check(p.Bytes(), nil, api.Signature{})
		}
		if e := sign.Honour(u, nil, api.Signature{}); e != want {
			t.Errorf("%x: %v, not %v", u, e, want)
		}
		seen[want]++
		u[31] |= 0x80
		if e := sign.Honour(u, nil, api.Signature{}); e != api.ErrCurve {
			t.Errorf("%x: %v", u, e)
		}
	}
	if seen[api.ErrCurve] < 15 || seen[api.ErrSignature] < 15 {
		t.Errorf("answers: %v", seen)
	}
}

// TestHonourTurned turns each bit of what is honoured.
func TestHonourTurned(t *testing.T) {
	k, b := api.Key{5, 6, 7}, []byte("lent")
	u, s := curve.Public(k), lending(t, k, b, make([]byte, 64))
	for i := range 8 * len(s) {
		other := s
		other[i/8] ^= 1 << (i % 8)
		want := api.ErrSignature
		if whole(other[32:]).Cmp(order) >= 0 {
			want = api.ErrScalar
		}
		if e := sign.Honour(u, b, other); e != want {
			t.Errorf("bit %d of the signature: %v, not %v", i, e, want)
		}
	}
	for i := range 8 * len(b) {
		other := slices.Clone(b)
		other[i/8] ^= 1 << (i % 8)
		if e := sign.Honour(u, other, s); e != api.ErrSignature {
			t.Errorf("bit %d of the bytes: %v", i, e)
		}
	}
	for i := range 8 * len(u) {
		other := u
		other[i/8] ^= 1 << (i % 8)
		if e := sign.Honour(other, b, s); e != api.ErrSignature && e != api.ErrCurve {
			t.Errorf("bit %d of the key: %v", i, e)
		}
	}
	if e := sign.Honour(u, b, with(s, key(new(big.Int).Add(whole(s[32:]), order)))); e != api.ErrScalar {
		t.Errorf("S and the order: %v", e)
	}
}

// TestKindsApart: a key of one kind does not answer for the signature of the other.
func TestKindsApart(t *testing.T) {
	seed, b := bytes.Repeat([]byte{9}, 32), []byte("text")
	public, signed := signing(t, seed, b)
	lent := lending(t, api.Key(seed), b, make([]byte, 64))
	if sign.Check(public, b, lent) != api.ErrSignature {
		t.Error("Check took what was lent by the seed as a private key")
	}
	if sign.Honour(curve.Public(api.Key(seed)), b, signed) != api.ErrSignature {
		t.Error("Honour took what was signed with the private key as a seed")
	}
}

// TestForeign: a signature that another program made with a private key of layer 2. There S's highest bit tells whether x is odd, and the point is taken as it is: it is Check's, of that point, without the bit.
func TestForeign(t *testing.T) {
	private := read(t, "c097248412e58bf05df487968205132794178e367637f5818f81e0e6ce73e865")
	public := read(t, "ab7e717d4a163b7d9a1d8071dfe9dcf8cdcd1cea3339b6356be84d887e322c64")
	b := digits(t, "05edce9d9c415ca78cb7252e72c2c4a554d3eb29485a0e1d503118d1a82d99fb4a")
	s := api.Signature(digits(t, "5de88ca9a89b4a115da79109c67c9c7464a3e4180274f1cb8c63c2984e286dfbede82deb9dcd9fae0bfbb821569b3d9001bd8130cd11d486cef047bd60b86e88"))
	if curve.Public(private) != public {
		t.Fatal("another public key")
	}
	p, e := edwards.Lift(public, s[63]&0x80 != 0)
	s[63] &= 0x7f
	if e != api.OK || sign.Check(p.Bytes(), b, s) != api.OK {
		t.Errorf("Check: %v, %v", e, sign.Check(p.Bytes(), b, s))
	}
}
