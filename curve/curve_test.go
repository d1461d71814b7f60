package curve_test

import (
	"bytes"
	"crypto/ecdh"
	"encoding/hex"
	"math/big"
	"math/rand"
	"slices"
	"testing"

	"pawl/api"
	"pawl/curve"
)

// P2.1

func TestClampExamples(t *testing.T) {
	if got, want := curve.Clamp(filled(0xff, 0xff, 0xff)), filled(0xf8, 0xff, 0x7f); got != want {
		t.Errorf("Clamp of bytes ff: %x", got)
	}
	if got, want := curve.Clamp(api.Key{}), filled(0, 0, 0x40); got != want {
		t.Errorf("Clamp of bytes 0: %x", got)
	}
}

func TestClampEveryBit(t *testing.T) {
	for i := range 256 {
		one := bitKey(i)
		all := filled(0xff, 0xff, 0xff)
		all[i/8] ^= one[i/8]
		for _, k := range []api.Key{one, all} {
			want := whole(k)
			for _, low := range []int{0, 1, 2, 255} {
				want.SetBit(want, low, 0)
			}
			want.SetBit(want, 254, 1)
			if got := curve.Clamp(k); whole(got).Cmp(want) != 0 {
				t.Errorf("Clamp(%x): %x", k, got)
			}
		}
	}
}

// P2.2

func TestScaleExamples(t *testing.T) {
	for _, c := range []struct{ k, u, want string }{
		{"a546e36bf0527c9d3b16154b82465edd62144c0ac1fc5a18506a2244ba449ac4", "e6db6867583030db3594c1a424b15f7c726624ec26b3353b10a903a6d0ab1c4c", "c3da55379de9c6908e94ea4df28d084f32eccf03491c71f754b4075577a28552"},
		{"4b66e9d4d1b4673c5ad22691957d6af5c11b6421e0ea01d42ca4169e7918ba0d", "e5210f12786811d3f4b7959d0538ae2c31dbe7106fc03c3efc4cd549c715a493", "95cbde9476e8907d7aade45cb4b873f88b595a68799fa152e6f8f7647aac7957"},
	} {
		if got := curve.Scale(read(t, c.k), read(t, c.u)); got != read(t, c.want) {
			t.Errorf("Scale(%s, %s): %x", c.k, c.u, got)
		}
	}
}

// What is scaled becomes the next private key, and that the next number: faults that few inputs show come up in a long row.
func TestScaleInARow(t *testing.T) {
	k, u := api.Key{9}, api.Key{9}
	for i := range 1000 {
		k, u = curve.Scale(k, u), k
		if i == 0 && k != read(t, "422c8e7a6227d7bca1350b3e2bb7279f7897b87bb6854b783c60e80311ae3079") {
			t.Fatalf("the first of the row: %x", k)
		}
	}
	if k != read(t, "684cf59ba83309552800ef566f2f4d3c1c3887c49360e3875f2eb94d99532c51") {
		t.Errorf("the last of the row: %x", k)
	}
}

func TestScaleIsTheLadder(t *testing.T) {
	r := rand.New(rand.NewSource(22))
	edges := plainKeys()
	for i, n := range numbers() {
		for _, k := range []api.Key{edges[i%len(edges)], drawn(r)} {
			want := key(climbed(whole(curve.Clamp(k)), modP(n)))
			if got := curve.Scale(k, key(n)); got != want {
				t.Errorf("Scale(%x, %x): %x, not %x", k, key(n), got, want)
			}
		}
	}
}

func TestScaleOfEveryBit(t *testing.T) {
	r := rand.New(rand.NewSource(23))
	u := drawn(r)
	for i := range 256 {
		for _, c := range []struct{ k, u api.Key }{{bitKey(i), u}, {u, bitKey(i)}} {
			want := key(climbed(whole(curve.Clamp(c.k)), number(c.u)))
			if got := curve.Scale(c.k, c.u); got != want {
				t.Errorf("Scale(%x, %x): %x, not %x", c.k, c.u, got, want)
			}
		}
	}
}

func TestScaleAsTheLibrary(t *testing.T) {
	r := rand.New(rand.NewSource(24))
	for range 500 {
		k, u := drawn(r), drawn(r)
		private, err := ecdh.X25519().NewPrivateKey(k[:])
		if err != nil {
			t.Fatal(err)
		}
		public, err := ecdh.X25519().NewPublicKey(u[:])
		if err != nil {
			t.Fatal(err)
		}
		want, err := private.ECDH(public)
		if err != nil {
			t.Fatal(err)
		}
		if got := curve.Scale(k, u); !bytes.Equal(got[:], want) {
			t.Errorf("Scale(%x, %x): %x, not %x", k, u, got, want)
		}
		if got := curve.Public(k); !bytes.Equal(got[:], private.PublicKey().Bytes()) {
			t.Errorf("Public(%x): %x", k, got)
		}
	}
}

// P2.3

func TestPublic(t *testing.T) {
	if got := curve.Public(filled(9, 0, 0)); got != read(t, "422c8e7a6227d7bca1350b3e2bb7279f7897b87bb6854b783c60e80311ae3079") {
		t.Errorf("Public of 9: %x", got)
	}
	r := rand.New(rand.NewSource(25))
	for _, k := range append(plainKeys(), drawn(r), drawn(r), drawn(r)) {
		if got, want := curve.Public(k), curve.Scale(k, filled(9, 0, 0)); got != want {
			t.Errorf("Public(%x): %x, not %x", k, got, want)
		}
	}
}

// P2.4

func TestSharedOfWeakNumbers(t *testing.T) {
	r := rand.New(rand.NewSource(26))
	for _, n := range weak() {
		for _, u := range said(n) {
			for _, k := range append(plainKeys(), drawn(r)) {
				if got, e := curve.Shared(k, u); got != (api.Key{}) || e != api.ErrWeak {
					t.Errorf("Shared(%x, %x): %x, %d", k, u, got, e)
				}
			}
		}
	}
}

func TestSharedOfOtherNumbers(t *testing.T) {
	r := rand.New(rand.NewSource(27))
	for _, n := range numbers() {
		for _, u := range said(n) {
			k := drawn(r)
			want, wantE := curve.Scale(k, u), api.OK
			if isWeak(n) {
				want, wantE = api.Key{}, api.ErrWeak
			}
			if got, e := curve.Shared(k, u); got != want || e != wantE {
				t.Errorf("Shared(%x, %x): %x, %d", k, u, got, e)
			}
		}
	}
}

// P2.5

func TestPairOfOtherLengths(t *testing.T) {
	for _, n := range []int{0, 1, 16, 30, 31, 33, 34, 63, 64, 1000} {
		seed := bytes.Repeat([]byte{0x5a}, n)
		if got, e := curve.Pair(seed); got != (api.Pair{}) || e != api.ErrSize {
			t.Errorf("Pair of %d bytes: %x, %d", n, got, e)
		}
		// Room for 32 bytes does not make a seed of fewer.
		if got, e := curve.Pair(append(make([]byte, 0, n+40), seed...)); got != (api.Pair{}) || e != api.ErrSize {
			t.Errorf("Pair of %d bytes and room: %x, %d", n, got, e)
		}
	}
	if got, e := curve.Pair(nil); got != (api.Pair{}) || e != api.ErrSize {
		t.Errorf("Pair of nil: %x, %d", got, e)
	}
}

func TestPair(t *testing.T) {
	r := rand.New(rand.NewSource(28))
	for _, k := range append(plainKeys(), drawn(r), drawn(r), drawn(r)) {
		want := api.Pair{Private: curve.Clamp(k), Public: curve.Public(k)}
		if got, e := curve.Pair(k[:]); got != want || e != api.OK {
			t.Errorf("Pair(%x): %x, %d", k, got, e)
		}
	}
}

func TestPairLeavesItsSeed(t *testing.T) {
	r := rand.New(rand.NewSource(29))
	room := make([]byte, 48)
	r.Read(room)
	before := slices.Clone(room)
	first, e := curve.Pair(room[:32])
	if e != api.OK || !bytes.Equal(room, before) {
		t.Errorf("the seed is now %x, %d", room, e)
	}
	clear(room)
	if got, _ := curve.Pair(room[:32]); got.Private != filled(0, 0, 0x40) {
		t.Errorf("another seed in the same place gives %x", got)
	}
	if got, _ := curve.Pair(before[:32]); got != first {
		t.Errorf("the same seed in another place gives %x", got)
	}
}

// P2.6

func TestOnExamples(t *testing.T) {
	if !curve.On(filled(9, 0, 0)) || curve.On(filled(2, 0, 0)) {
		t.Error("On(9), On(2)")
	}
	if !curve.On(api.Key{}) || !curve.On(key(prime)) {
		t.Error("0 is a square")
	}
}

func TestOn(t *testing.T) {
	check := func(u api.Key) {
		t.Helper()
		want := big.Jacobi(right(number(u)), prime) >= 0
		if got := curve.On(u); got != want {
			t.Errorf("On(%x): %t", u, got)
		}
	}
	for _, n := range numbers() {
		for _, u := range said(n) {
			check(u)
		}
	}
	r := rand.New(rand.NewSource(30))
	for i := range 256 {
		check(bitKey(i))
		check(drawn(r))
	}
	for i := range int64(200) {
		check(key(big.NewInt(i)))
	}
}

// P2.7

func TestAgreed(t *testing.T) {
	r := rand.New(rand.NewSource(31))
	keys := append(plainKeys(), drawn(r), drawn(r))
	for _, a := range keys {
		for _, b := range keys {
			if x, y := curve.Scale(a, curve.Public(b)), curve.Scale(b, curve.Public(a)); x != y {
				t.Errorf("of %x and %x one gives %x, the other %x", a, b, x, y)
			}
		}
	}
}

func TestAgreedOverAnyNumber(t *testing.T) {
	r := rand.New(rand.NewSource(32))
	for _, n := range numbers() {
		a, b, u := drawn(r), drawn(r), key(n)
		if x, y := curve.Scale(a, curve.Scale(b, u)), curve.Scale(b, curve.Scale(a, u)); x != y {
			t.Errorf("of %x and %x over %x one gives %x, the other %x", a, b, u, x, y)
		}
	}
}

func TestScaleOfClamped(t *testing.T) {
	r := rand.New(rand.NewSource(33))
	for _, k := range append(plainKeys(), drawn(r), drawn(r)) {
		u := drawn(r)
		if x, y := curve.Scale(k, u), curve.Scale(curve.Clamp(k), u); x != y {
			t.Errorf("Scale(%x, %x): %x, clamped %x", k, u, x, y)
		}
	}
}

func TestScaleOfOneNumberSaidOtherwise(t *testing.T) {
	r := rand.New(rand.NewSource(34))
	for _, n := range numbers() {
		k := drawn(r)
		want := curve.Scale(k, key(modP(n)))
		for _, u := range said(n) {
			if got := curve.Scale(k, u); got != want {
				t.Errorf("Scale(%x, %x): %x, not %x", k, u, got, want)
			}
		}
	}
}

// P2.8

func TestMultiples(t *testing.T) {
	r := rand.New(rand.NewSource(35))
	on, off := 0, 0
	for _, n := range numbers() {
		u, k := key(n), drawn(r)
		p := lifted(t, u)
		if p.f == 1 {
			on++
		} else {
			off++
		}
		want := new(big.Int)
		if q := p.taken(whole(curve.Clamp(k))); q.x != nil {
			want = q.x
		}
		got := curve.Scale(k, u)
		if got != key(want) {
			t.Errorf("Scale(%x, %x): %x, not %x", k, u, got, key(want))
		}
		if want.Sign() != 0 && curve.On(got) != curve.On(u) {
			t.Errorf("Scale(%x, %x) goes from the curve to its twist, or back", k, u)
		}
	}
	if on < 10 || off < 10 {
		t.Errorf("%d numbers of the curve, %d of its twist", on, off)
	}
}

func TestMultiplesStayWhereTheyAre(t *testing.T) {
	r := rand.New(rand.NewSource(36))
	for range 100 {
		k, u := drawn(r), drawn(r)
		if curve.On(curve.Scale(k, u)) != curve.On(u) {
			t.Errorf("Scale(%x, %x) goes from the curve to its twist, or back", k, u)
		}
		if !curve.On(curve.Public(k)) {
			t.Errorf("Public(%x) is of the twist", k)
		}
	}
}

// P2.9

func TestOrdersOfWeakNumbers(t *testing.T) {
	for i, order := range []int64{2, 4, 4, 8, 8} {
		p := lifted(t, key(weak()[i]))
		if q := p.taken(big.NewInt(order)); q.x != nil {
			t.Errorf("%d times weak number %d is %x", order, i, q.x)
		}
		if q := p.taken(big.NewInt(order / 2)); q.x == nil {
			t.Errorf("%d times weak number %d is the point at infinity", order/2, i)
		}
	}
}

func TestScaleGivesZeroOfWeakNumbersAlone(t *testing.T) {
	r := rand.New(rand.NewSource(37))
	for _, n := range numbers() {
		for _, u := range said(n) {
			for _, k := range []api.Key{{}, filled(0xff, 0xff, 0xff), drawn(r)} {
				if got := curve.Scale(k, u); (got == api.Key{}) != isWeak(n) {
					t.Errorf("Scale(%x, %x): %x", k, u, got)
				}
			}
		}
	}
}

// Of what makes the base point the one at infinity, four times its order is nearest to the private keys: they come on either side of it, and never give 0.
func TestScaleNearTheOrder(t *testing.T) {
	order, _ := new(big.Int).SetString("7237005577332262213973186563042994240857116359379907606001950938285454250989", 10)
	for i := int64(-64); i <= 64; i += 8 {
		n := new(big.Int).Lsh(order, 2)
		n.Add(n, big.NewInt(i))
		k := key(n)
		if got := curve.Public(k); got == (api.Key{}) {
			t.Errorf("Public(%x) is 0", k)
		}
		if got, want := curve.Public(k), key(lifted(t, api.Key{9}).taken(whole(curve.Clamp(k))).x); got != want {
			t.Errorf("Public(%x): %x, not %x", k, got, want)
		}
	}
}

// read is a key written in hexadecimal.
func read(t *testing.T, s string) api.Key {
	t.Helper()
	b, err := hex.DecodeString(s)
	if err != nil || len(b) != api.KeySize {
		t.Fatal(s, err)
	}
	return api.Key(b)
}
