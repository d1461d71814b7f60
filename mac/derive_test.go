package mac_test

import (
	"bytes"
	"crypto/hkdf"
	"crypto/sha256"
	"math"
	"math/rand"
	"slices"
	"testing"

	"pawl/api"
	"pawl/mac"
)

// counts is those of bytes at which a further piece begins, and the ends.
var counts = []int{0, 1, 2, 31, 32, 33, 42, 48, 63, 64, 65, 95, 96, 97, 255, 256, 1000, 4096, 8127, 8128, 8129, 8159, 8160}

// wrongCounts is those that Expand refuses, and how.
var wrongCounts = []struct {
	n    int
	want api.Errno
}{
	{-1, api.ErrArg},
	{-2, api.ErrArg},
	{-32, api.ErrArg},
	{-8160, api.ErrArg},
	{-8161, api.ErrArg},
	{math.MinInt32, api.ErrArg},
	{math.MinInt, api.ErrArg},
	{8161, api.ErrLong},
	{8162, api.ErrLong},
	{8192, api.ErrLong},
	{8193, api.ErrLong},
	{1 << 20, api.ErrLong},
	{math.MaxInt32, api.ErrLong},
	{math.MaxInt, api.ErrLong},
}

// P4.3

func TestExtractExample(t *testing.T) {
	salt, secret := bytesOf(t, "000102030405060708090a0b0c"), bytes.Repeat([]byte{0x0b}, 22)
	if got := mac.Extract(salt, secret); got != read(t, "077709362c2e32df0ddc3f0dc47bba6390b6c73bb50f9c3122ec844ad7c2b3e5") {
		t.Errorf("Extract: %x", got)
	}
}

func TestExtract(t *testing.T) {
	r := rand.New(rand.NewSource(71))
	for _, k := range keyLengths {
		for _, n := range lengths {
			salt, secret := drawn(r, k), drawn(r, n)
			got := mac.Extract(salt, secret)
			want, err := hkdf.Extract(sha256.New, secret, salt)
			if err != nil {
				t.Fatal(err)
			}
			if got != api.Key(want) || got != mac.Sum(salt, secret) {
				t.Errorf("Extract of %d bytes with a salt of %d: %x, not %x", n, k, got, want)
			}
		}
	}
}

func TestExtractOfAnEmptySalt(t *testing.T) {
	r := rand.New(rand.NewSource(72))
	for _, n := range lengths {
		secret := drawn(r, n)
		want := library(make([]byte, 32), secret)
		for _, salt := range [][]byte{nil, {}, make([]byte, 1), make([]byte, 32), make([]byte, 64)} {
			if got := mac.Extract(salt, secret); got != want {
				t.Errorf("Extract of %d bytes with %d zeros for a salt: %x, not %x", n, len(salt), got, want)
			}
		}
		if mac.Extract(make([]byte, 65), secret) == want {
			t.Error("65 zeros for a salt are taken for none")
		}
	}
}

func TestExtractLeavesItsArguments(t *testing.T) {
	r := rand.New(rand.NewSource(73))
	for _, k := range []int{0, 13, 64, 65} {
		saltRoom, room := drawn(r, k+200), drawn(r, 300)
		salt, secret := slices.Clone(saltRoom), slices.Clone(room)
		mac.Extract(saltRoom[:k], room[:100])
		if !bytes.Equal(saltRoom, salt) || !bytes.Equal(room, secret) {
			t.Errorf("Extract changes a salt of %d bytes, or its secret", k)
		}
	}
}

// P4.4

func TestExpandExamples(t *testing.T) {
	k := read(t, "077709362c2e32df0ddc3f0dc47bba6390b6c73bb50f9c3122ec844ad7c2b3e5")
	want := "3cb25f25faacd57a90434f64d0362f2a2d2d0a90cf1a5a4c5db02d56ecc4c5bf34007208d5b887185865"
	if got, e := mac.Expand(k, bytesOf(t, "f0f1f2f3f4f5f6f7f8f9"), 42); e != api.OK || !bytes.Equal(got, bytesOf(t, want)) {
		t.Errorf("Expand: %x, %v", got, e)
	}
	if got, e := mac.Expand(k, nil, 0); e != api.OK || len(got) != 0 {
		t.Errorf("Expand to no bytes: %x, %v", got, e)
	}
	if got, e := mac.Expand(k, nil, -1); e != api.ErrArg || got != nil {
		t.Errorf("Expand to -1: %x, %v", got, e)
	}
	if got, e := mac.Expand(k, nil, 8161); e != api.ErrLong || got != nil {
		t.Errorf("Expand to 8161: %x, %v", got, e)
	}
	if got, e := mac.Expand(k, nil, 8160); e != api.OK || !bytes.Equal(got, slices.Concat(pieces(k, nil, 255)...)) {
		t.Errorf("Expand to 8160: %x, %v", got, e)
	}
}

func TestExpandOfCounts(t *testing.T) {
	r := rand.New(rand.NewSource(74))
	for _, n := range counts {
		for _, long := range []int{0, 1, 9, 22, 23, 30, 31, 32, 64, 300} {
			checkExpand(t, api.Key(drawn(r, 32)), drawn(r, long), n)
		}
	}
	for n := range 300 {
		checkExpand(t, api.Key(drawn(r, 32)), drawn(r, r.Intn(40)), n)
	}
}

func TestExpandOfExtremeKeys(t *testing.T) {
	for _, fill := range []byte{0, 1, 0x36, 0x5c, 0x7f, 0x80, 0xff} {
		k := api.Key(bytes.Repeat([]byte{fill}, 32))
		checkExpand(t, k, nil, 100)
		checkExpand(t, k, []byte{}, 100)
		checkExpand(t, k, []byte{1}, 100)
		checkExpand(t, k, bytes.Repeat([]byte{fill}, 70), 100)
	}
}

// The rule itself, piece by piece.
func TestExpandByItsPieces(t *testing.T) {
	r := rand.New(rand.NewSource(75))
	for _, long := range []int{0, 1, 12, 31, 100} {
		k, info := api.Key(drawn(r, 32)), drawn(r, long)
		all := slices.Concat(pieces(k, info, 255)...)
		for _, n := range counts {
			if got, e := mac.Expand(k, info, n); e != api.OK || !bytes.Equal(got, all[:n]) {
				t.Errorf("Expand to %d with an info of %d bytes: %.40x.., %v", n, long, got, e)
			}
		}
	}
}

func TestExpandRefuses(t *testing.T) {
	r := rand.New(rand.NewSource(76))
	for _, c := range wrongCounts {
		for _, info := range [][]byte{nil, {}, drawn(r, 10), drawn(r, 300)} {
			if got, e := mac.Expand(api.Key(drawn(r, 32)), info, c.n); e != c.want || got != nil {
				t.Errorf("Expand to %d: %d bytes, %v", c.n, len(got), e)
			}
		}
	}
}

func TestExpandIsNewMemory(t *testing.T) {
	r := rand.New(rand.NewSource(77))
	for _, n := range counts {
		k, room := api.Key(drawn(r, 32)), drawn(r, 300)
		before, info := slices.Clone(room), room[:40]
		want := libraryExpand(t, k, info, n)
		first, _ := mac.Expand(k, info, n)
		second, _ := mac.Expand(k, info, n)
		if !bytes.Equal(room, before) {
			t.Fatalf("Expand to %d changes its info, or what lies behind", n)
		}
		overwrite(first)
		if !bytes.Equal(second, want) || !bytes.Equal(room, before) {
			t.Errorf("an answer of %d bytes shares memory with another one, or with info", n)
		}
		clear(room)
		if !bytes.Equal(second, want) {
			t.Errorf("an answer of %d bytes changes with info", n)
		}
		if third, e := mac.Expand(k, before[:40], n); e != api.OK || !bytes.Equal(third, want) {
			t.Errorf("Expand to %d changes with an answer of it", n)
		}
	}
}

// Info may be what Expand itself gave.
func TestExpandOfItsOwnAnswer(t *testing.T) {
	r := rand.New(rand.NewSource(78))
	k := api.Key(drawn(r, 32))
	info, _ := mac.Expand(k, nil, 64)
	for range 5 {
		checkExpand(t, k, info, 96)
		info, _ = mac.Expand(k, info, 96)
	}
}

// P4.5

func TestDeriveExamples(t *testing.T) {
	for _, c := range []struct {
		salt, secret, info []byte
		n                  int
		want               string
	}{
		{bytesOf(t, "000102030405060708090a0b0c"), bytes.Repeat([]byte{0x0b}, 22), bytesOf(t, "f0f1f2f3f4f5f6f7f8f9"), 42,
			"3cb25f25faacd57a90434f64d0362f2a2d2d0a90cf1a5a4c5db02d56ecc4c5bf34007208d5b887185865"},
		{rising(0x60, 80), rising(0, 80), rising(0xb0, 80), 82,
			"b11e398dc80327a1c8e7f78c596a49344f012eda2d4efad8a050cc4c19afa97c59045a99cac7827271cb41c65e590e09da3275600c2f09b8367793a9aca3db71cc30c58179ec3e87c14c01d5c1f3434f1d87"},
		{nil, bytes.Repeat([]byte{0x0b}, 22), nil, 42,
			"8da4e775a563c18f715f802a063c5a31b8a11f5c5ee1879ec3454e5f3c738d2d9d201395faa4b61a96c8"},
	} {
		if got, e := mac.Derive(c.salt, c.secret, c.info, c.n); e != api.OK || !bytes.Equal(got, bytesOf(t, c.want)) {
			t.Errorf("Derive of %d bytes: %x, %v", c.n, got, e)
		}
	}
}

func TestDerive(t *testing.T) {
	r := rand.New(rand.NewSource(79))
	for _, n := range counts {
		for _, k := range []int{0, 1, 13, 32, 64, 65, 200} {
			salt, secret, info := drawn(r, k), drawn(r, r.Intn(150)), drawn(r, r.Intn(50))
			got, e := mac.Derive(salt, secret, info, n)
			both, bothE := mac.Expand(mac.Extract(salt, secret), info, n)
			if e != bothE || !bytes.Equal(got, both) {
				t.Errorf("Derive of %d bytes: %.40x.., %v, by its halves %.40x.., %v", n, got, e, both, bothE)
			}
			want, err := hkdf.Key(sha256.New, secret, salt, string(info), n)
			if err != nil {
				t.Fatal(err)
			}
			if e != api.OK || !bytes.Equal(got, want) {
				t.Errorf("Derive of %d bytes: %.40x.., %v, not %.40x..", n, got, e, want)
			}
		}
	}
}

func TestDeriveRefuses(t *testing.T) {
	r := rand.New(rand.NewSource(80))
	for _, c := range wrongCounts {
		for _, k := range []int{0, 32, 100} {
			if got, e := mac.Derive(drawn(r, k), drawn(r, 32), drawn(r, 10), c.n); e != c.want || got != nil {
				t.Errorf("Derive of %d bytes: %d of them, %v", c.n, len(got), e)
			}
		}
		if got, e := mac.Derive(nil, nil, nil, c.n); e != c.want || got != nil {
			t.Errorf("Derive of %d bytes of nothing: %d of them, %v", c.n, len(got), e)
		}
	}
}

func TestDeriveIsNewMemory(t *testing.T) {
	r := rand.New(rand.NewSource(81))
	for _, n := range counts {
		room := drawn(r, 400)
		before := slices.Clone(room)
		first, _ := mac.Derive(room[:100], room[100:200], room[200:300], n)
		second, _ := mac.Derive(room[:100], room[100:200], room[200:300], n)
		want := slices.Clone(first)
		overwrite(first)
		if !bytes.Equal(room, before) || !bytes.Equal(second, want) {
			t.Errorf("an answer of %d bytes shares memory with another one, or with an argument", n)
		}
		clear(room)
		if third, e := mac.Derive(before[:100], before[100:200], before[200:300], n); e != api.OK || !bytes.Equal(third, want) || !bytes.Equal(second, want) {
			t.Errorf("Derive of %d bytes changes with what was handed in", n)
		}
	}
}

// P4.7

func TestFewerBytesAreTheBeginningOfMore(t *testing.T) {
	r := rand.New(rand.NewSource(82))
	for _, long := range []int{0, 10, 100} {
		k, info := api.Key(drawn(r, 32)), drawn(r, long)
		all, e := mac.Expand(k, info, api.MaxExpand)
		if e != api.OK || len(all) != api.MaxExpand {
			t.Fatalf("%d bytes, %v", len(all), e)
		}
		for _, n := range append(counts, r.Perm(api.MaxExpand)[:100]...) {
			if few, e := mac.Expand(k, info, n); e != api.OK || !bytes.Equal(few, all[:n]) {
				t.Errorf("Expand to %d is no beginning of more: %v", n, e)
			}
		}
	}
}

// checkExpand holds Expand against the library's.
func checkExpand(t *testing.T, k api.Key, info []byte, n int) {
	t.Helper()
	want := libraryExpand(t, k, info, n)
	if got, e := mac.Expand(k, info, n); e != api.OK || !bytes.Equal(got, want) {
		t.Errorf("Expand to %d with an info of %d bytes: %.40x.., %v, not %.40x..", n, len(info), got, e, want)
	}
}

func libraryExpand(t *testing.T, k api.Key, info []byte, n int) []byte {
	t.Helper()
	want, err := hkdf.Expand(sha256.New, k[:], string(info), n)
	if err != nil {
		t.Fatal(err)
	}
	return want
}

// pieces is T1 T2 T3 .., by the promise's words and the library's HMAC.
func pieces(k api.Key, info []byte, n int) [][]byte {
	var all [][]byte
	var last []byte
	for i := 1; i <= n; i++ {
		piece := library(k[:], slices.Concat(last, info, []byte{byte(i)}))
		last = piece[:]
		all = append(all, last)
	}
	return all
}

// rising is n bytes, each one more than the one ahead of it.
func rising(first byte, n int) []byte {
	b := make([]byte, n)
	for i := range b {
		b[i] = first + byte(i)
	}
	return b
}

// overwrite writes over a list and its spare room.
func overwrite(b []byte) {
	b = b[:cap(b)]
	for i := range b {
		b[i] = 0xee
	}
}
