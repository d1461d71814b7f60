package sign_test

import (
	"bytes"
	"crypto/ed25519"
	"math/big"
	"math/rand"
	"slices"
	"testing"

	"pawl/api"
	"pawl/edwards"
	"pawl/sign"
)

// signing signs, and ends the test if that is refused.
func signing(t testing.TB, seed, b []byte) (api.Key, api.Signature) {
	t.Helper()
	p, e := sign.Public(seed)
	s, e2 := sign.Sign(seed, b)
	if e != api.OK || e2 != api.OK {
		t.Fatalf("seed %x: %v, %v", seed, e, e2)
	}
	return p, s
}

// seeds is the edges of seeds, and some that were drawn.
func seeds() [][]byte {
	r := rand.New(rand.NewSource(201))
	list := [][]byte{make([]byte, 32), bytes.Repeat([]byte{0xff}, 32), bytes.Repeat([]byte{0x80}, 32)}
	for range 24 {
		list = append(list, drawn(r, 32))
	}
	return list
}

// The vectors of RFC 8032, section 7.1.
var vectors = []struct{ seed, public, b, s string }{
	{
		"9d61b19deffd5a60ba844af492ec2cc44449c5697b326919703bac031cae7f60",
		"d75a980182b10ab7d54bfed3c964073a0ee172f3daa62325af021a68f707511a",
		"",
		"e5564300c360ac729086e2cc806e828a84877f1eb8e5d974d873e065224901555fb8821590a33bacc61e39701cf9b46bd25bf5f0595bbe24655141438e7a100b",
	},
	{
		"4ccd089b28ff96da9db6c346ec114e0f5b8a319f35aba624da8cf6ed4fb8a6fb",
		"3d4017c3e843895a92b70aa74d1b7ebc9c982ccf2ec4968cc0cd55f12af4660c",
		"72",
		"92a009a9f0d4cab8720e820b5f642540a2b27b5416503f8fb3762223ebdb69da085ac1e43e15996e458f3613d0f11d8c387b2eaeb4302aeeb00d291612bb0c00",
	},
	{
		"c5aa8df43f9f837bedb7442f31dcb7b166d38535076f094b85ce3a2e0b4458f7",
		"fc51cd8e6218a1a38da47ed00230f0580816ed13ba3303ac5deb911548908025",
		"af82",
		"6291d657deec24024827e69c3abe01a30ce548a284743a445e3680d7db5ac3ac18ff9b538d16f290ae67f760984dc6594a7c15e9716ed28dc027beceea1ec40a",
	},
	{
		"833fe62409237b9d62ec77587520911e9a759cec1d19755b7da901b96dca3d42",
		"ec172b93ad5e563bf4932c70e1245034c35467ef2efd4d64ebf819683467e2bf",
		"ddaf35a193617abacc417349ae20413112e6fa4e89a97ea20a9eeee64b55d39a2192992a274fc1a836ba3c23a3feebbd454d4423643ce80e2a9ac94fa54ca49f",
		"dc2a4459e7369633a52b1bf277839a00201009a3efbf3ecb69bea2186c26b58909351fc9ac90b3ecfdfbc7c66431e0303dca179c138ac17ad9bef1177331a704",
	},
}

func TestVectors(t *testing.T) {
	for _, v := range vectors {
		b := digits(t, v.b)
		p, s := signing(t, digits(t, v.seed), b)
		if p != read(t, v.public) || s != api.Signature(digits(t, v.s)) {
			t.Errorf("seed %s: %x, %x", v.seed, p, s)
		}
		if e := sign.Check(p, b, s); e != api.OK {
			t.Errorf("Check of seed %s: %v", v.seed, e)
		}
	}
}

func TestPublicAndSignBeside(t *testing.T) {
	r := rand.New(rand.NewSource(202))
	for i, seed := range seeds() {
		b := drawn(r, i*i)
		theirs := ed25519.NewKeyFromSeed(seed)
		p, s := signing(t, seed, b)
		if !bytes.Equal(p[:], theirs.Public().(ed25519.PublicKey)) {
			t.Errorf("Public(%x): %x", seed, p)
		}
		if !bytes.Equal(s[:], ed25519.Sign(theirs, b)) {
			t.Errorf("Sign(%x, %x): %x", seed, b, s)
		}
	}
}

// TestSignWords holds Public and Sign against the chapter's words, done by great numbers.
func TestSignWords(t *testing.T) {
	for _, seed := range seeds()[:5] {
		b := seed[3:20]
		p, s := signing(t, seed, b)
		sum := hashOf(seed)
		a := clamped(sum[:32])
		public := base().often(a).bytes()
		if p != public {
			t.Errorf("Public(%x): %x, not %x", seed, p, public)
		}
		if want := made(modL(a), hashed(sum[32:], b), public, b); s != want {
			t.Errorf("Sign(%x, %x): %x, not %x", seed, b, s, want)
		}
	}
}

// TestSignLengths: lengths around those at which the hash takes a block up.
func TestSignLengths(t *testing.T) {
	seed := bytes.Repeat([]byte{7}, 32)
	theirs := ed25519.NewKeyFromSeed(seed)
	long := drawn(rand.New(rand.NewSource(203)), 1<<20)
	for _, n := range []int{0, 1, 31, 32, 63, 64, 65, 79, 80, 95, 96, 97, 111, 112, 127, 128, 129, 1000, 1 << 20} {
		p, s := signing(t, seed, long[:n])
		if !bytes.Equal(s[:], ed25519.Sign(theirs, long[:n])) {
			t.Errorf("Sign of %d bytes: %x", n, s)
		}
		if e := sign.Check(p, long[:n], s); e != api.OK {
			t.Errorf("Check of %d bytes: %v", n, e)
		}
	}
}

func TestSeedSizes(t *testing.T) {
	for n := range 70 {
		seed := bytes.Repeat([]byte{5}, n)
		p, e := sign.Public(seed)
		s, e2 := sign.Sign(seed, []byte("text"))
		if n == 32 {
			if e != api.OK || e2 != api.OK || p == (api.Key{}) || s == (api.Signature{}) {
				t.Errorf("a seed of 32 bytes: %v, %v", e, e2)
			}
			continue
		}
		if e != api.ErrSize || e2 != api.ErrSize || p != (api.Key{}) || s != (api.Signature{}) {
			t.Errorf("a seed of %d bytes: %x %v, %x %v", n, p, e, s, e2)
		}
	}
	if _, e := sign.Public(nil); e != api.ErrSize {
		t.Errorf("Public(nil): %v", e)
	}
}

// TestSigned is P20.6, with no bytes handed in as nil and as an empty list.
func TestSigned(t *testing.T) {
	r := rand.New(rand.NewSource(204))
	for i, seed := range seeds() {
		b := drawn(r, 3*i)
		p, s := signing(t, seed, b)
		if e := sign.Check(p, b, s); e != api.OK {
			t.Errorf("Check(%x, %x, %x): %v", p, b, s, e)
		}
	}
	p, s := signing(t, seeds()[0], nil)
	if _, again := signing(t, seeds()[0], []byte{}); again != s || sign.Check(p, []byte{}, s) != api.OK {
		t.Error("nil and no bytes are not alike")
	}
}

func TestCheckExamples(t *testing.T) {
	p, s := signing(t, digits(t, vectors[0].seed), nil)
	more := s
	more[32]++
	limit := with(s, key(order))
	for _, c := range []struct {
		p    api.Key
		b    []byte
		s    api.Signature
		want api.Errno
	}{
		{p, nil, s, api.OK},
		{p, nil, more, api.ErrSignature},
		{p, nil, limit, api.ErrScalar},
		{p, []byte{0}, s, api.ErrSignature},
		{api.Key{2}, nil, s, api.ErrCurve},
		{api.Key{2}, nil, limit, api.ErrCurve},
		{api.Key{1}, nil, s, api.ErrSmall},
		{api.Key{1}, nil, limit, api.ErrSmall},
		{api.Key{1}, nil, api.Signature{}, api.ErrSmall},
	} {
		if e := sign.Check(c.p, c.b, c.s); e != c.want {
			t.Errorf("Check(%x, %x, %x): %v, not %v", c.p, c.b, c.s, e, c.want)
		}
	}
}

// TestTurned turns each bit of all that is checked.
func TestTurned(t *testing.T) {
	b := []byte("what was signed")
	p, s := signing(t, seeds()[4], b)
	for i := range 8 * len(s) {
		other := s
		other[i/8] ^= 1 << (i % 8)
		want := api.ErrSignature
		if whole(other[32:]).Cmp(order) >= 0 {
			want = api.ErrScalar
		}
		if e := sign.Check(p, b, other); e != want {
			t.Errorf("bit %d of the signature: %v, not %v", i, e, want)
		}
	}
	for i := range 8 * len(b) {
		other := slices.Clone(b)
		other[i/8] ^= 1 << (i % 8)
		if e := sign.Check(p, other, s); e != api.ErrSignature {
			t.Errorf("bit %d of the bytes: %v", i, e)
		}
	}
	for i := range 8 * len(p) {
		other := p
		other[i/8] ^= 1 << (i % 8)
		want := api.ErrSignature
		if _, e := edwards.Parse(other); e != api.OK {
			want = api.ErrCurve
		}
		if e := sign.Check(other, b, s); e != want {
			t.Errorf("bit %d of the key: %v, not %v", i, e, want)
		}
	}
	for _, other := range [][]byte{nil, b[:len(b)-1], b[1:], append(slices.Clone(b), 0), append([]byte{0}, b...)} {
		if e := sign.Check(p, other, s); e != api.ErrSignature {
			t.Errorf("other bytes %q: %v", other, e)
		}
	}
}

// TestSmall: the points of small order are refused, whatever the signature; so is each other form of a point ahead of that.
func TestSmall(t *testing.T) {
	var fits api.Signature
	fits[0] = 1 // R the neutral point, S 0: it would hold for the neutral point and all bytes
	beyond := with(fits, key(order))
	for i, p := range smalls(t) {
		for _, s := range []api.Signature{fits, beyond, {}} {
			if e := sign.Check(p.bytes(), []byte("text"), s); e != api.ErrSmall {
				t.Errorf("small point %d, %x: %v", i, s, e)
			}
		}
	}
	for _, p := range []api.Key{
		filled(0xee, 0xff, 0x7f), // 1, the neutral point's y, in another form
		filled(0xed, 0xff, 0x7f), // 0
		filled(0xed, 0xff, 0xff),
		filled(0xec, 0xff, 0xff), // x = 0 that would be odd
		filled(1, 0, 0x80),
	} {
		for _, s := range []api.Signature{fits, beyond} {
			if e := sign.Check(p, nil, s); e != api.ErrCurve {
				t.Errorf("%x: %v", p, e)
			}
		}
	}
}

// TestNoSecond is P20.8: the same S in another form, and other ones, do not hold.
func TestNoSecond(t *testing.T) {
	for _, seed := range seeds()[:4] {
		p, s := signing(t, seed, seed)
		n := whole(s[32:])
		for i := int64(1); i <= 15; i++ {
			more := new(big.Int).Add(n, new(big.Int).Mul(order, big.NewInt(i)))
			if more.BitLen() > 256 {
				break
			}
			if e := sign.Check(p, seed, with(s, key(more))); e != api.ErrScalar {
				t.Errorf("S and %d times the order: %v", i, e)
			}
		}
		for _, other := range []*big.Int{modL(less(n, 1)), modL(less(n, -1)), modL(new(big.Int).Neg(n)), new(big.Int)} {
			if e := sign.Check(p, seed, with(s, key(other))); e != api.ErrSignature {
				t.Errorf("S %x in the place of %x: %v", key(other), s[32:], e)
			}
		}
	}
	p, s := signing(t, seeds()[3], nil)
	for last, want := range map[api.Key]api.Errno{
		key(less(order, 1)):       api.ErrSignature,
		key(order):                api.ErrScalar,
		key(less(order, -1)):      api.ErrScalar,
		filled(0xff, 0xff, 0xff):  api.ErrScalar,
		filled(0, 0, 0x10):        api.ErrSignature,
		filled(0xff, 0xff, 0x0f):  api.ErrSignature,
		key(new(big.Int)):         api.ErrSignature,
		key(less(pow2(256), 1)):   api.ErrScalar,
		key(less(pow2(253), -99)): api.ErrScalar,
	} {
		if e := sign.Check(p, nil, with(s, last)); e != want {
			t.Errorf("S %x: %v, not %v", last, e, want)
		}
	}
}

// TestMixed: a public key that is a multiple of Base and a small point more. The equation is asked as it stands, not eight times, so that the small part shows unless the challenge takes it away.
func TestMixed(t *testing.T) {
	a, r := big.NewInt(1234567), big.NewInt(7654321)
	var held, fell int
	for i, small := range smalls(t) {
		p := base().often(a).plus(small)
		for n := range 12 {
			b := []byte{byte(i), byte(n)}
			s := made(a, r, p.bytes(), b)
			want := api.OK
			if !holds(p, b, s) {
				want = api.ErrSignature
				fell++
			} else {
				held++
			}
			public := p.bytes()
			if e := sign.Check(public, b, s); e != want || ed25519.Verify(public[:], b, s[:]) != (want == api.OK) {
				t.Errorf("Base and the small point %d, %x: %v, not %v", i, b, e, want)
			}
		}
	}
	if held < 20 || fell < 20 {
		t.Errorf("%d held, %d did not", held, fell)
	}
}

// TestLateR: an R that is the right point and a small one more, or the right one in another form, does not hold.
func TestLateR(t *testing.T) {
	a, r := big.NewInt(99991), big.NewInt(31337)
	p, b := base().often(a), []byte("text")
	public := p.bytes()
	for i, small := range smalls(t) {
		first := base().often(r).plus(small).bytes()
		c := hashed(first[:], public[:], b)
		last := key(modL(c.Add(c.Mul(c, a), r)))
		s := api.Signature(slices.Concat(first[:], last[:]))
		want := api.ErrSignature
		if i == 0 {
			want = api.OK
		}
		if e := sign.Check(public, b, s); e != want {
			t.Errorf("R and the small point %d: %v, not %v", i, e, want)
		}
	}
	for first, want := range map[api.Key]api.Errno{
		{1}:                      api.OK, // r = 0: the neutral point in its one form
		filled(0xee, 0xff, 0x7f): api.ErrSignature,
		filled(1, 0, 0x80):       api.ErrSignature,
	} {
		c := hashed(first[:], public[:], b)
		last := key(modL(c.Mul(c, a)))
		if e := sign.Check(public, b, api.Signature(slices.Concat(first[:], last[:]))); e != want {
			t.Errorf("R %x: %v, not %v", first, e, want)
		}
	}
}

// TestNegative: who has the opposite key has signed nothing.
func TestNegative(t *testing.T) {
	p, s := signing(t, seeds()[5], []byte("text"))
	p[31] ^= 0x80
	if e := sign.Check(p, []byte("text"), s); e != api.ErrSignature {
		t.Errorf("the opposite key: %v", e)
	}
}
