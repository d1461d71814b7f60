package prekeys_test

import (
	"bytes"
	"crypto/ecdh"
	"math"
	"math/rand"
	"slices"
	"strings"
	"testing"

	"pawl/api"
	"pawl/curve"
	"pawl/prekeys"
	"pawl/sign"
)

// P23.2 and P23.3.

// publicByWords is curve.Public, by Go's own library.
func publicByWords(t *testing.T, private api.Key) api.Key {
	t.Helper()
	p, err := ecdh.X25519().NewPrivateKey(private[:])
	if err != nil {
		t.Fatal(err)
	}
	return api.Key(p.PublicKey().Bytes())
}

// checkCheck holds Check against the words.
func checkCheck(t *testing.T, what string, l api.Listing, want api.Errno) {
	t.Helper()
	if got, words := prekeys.Check(l), checkByWords(l); got != want || words != want {
		t.Errorf("%s: %v; by the words %v; not %v", what, got, words, want)
	}
}

func TestSigned(t *testing.T) {
	r := rand.New(rand.NewSource(2310))
	for i := range 60 {
		l := api.Listing{Name: "ann", Device: 1 + i%4, Signed: drawnKey(r), Number: r.Uint32(), Gone: i%2 == 0}
		if i%3 == 0 { // what stands there ahead of it tells nothing
			l.Identity = drawnKey(r)
			r.Read(l.Sig[:])
		}
		private, random := drawnKey(r), make([]byte, 64)
		r.Read(random)
		want := l
		want.Identity = publicByWords(t, private)
		want.Sig, _ = sign.Lend(private, signedByWords(want), random)
		got, e := prekeys.Signed(l, private, random)
		if got != want || e != api.OK {
			t.Fatalf("Signed(%v): %v, %v", l, got, e)
		}
		checkCheck(t, "Signed", got, api.OK)
		if again, _ := prekeys.Signed(got, private, random); again != got {
			t.Fatalf("Signed of it again: %v", again)
		}
	}
}

// What is no name and no device's number is signed too, as it is; a name beyond 4096 bytes has no text.
func TestSignedOfAnything(t *testing.T) {
	random := bytes.Repeat([]byte{5}, 64)
	for _, name := range []string{"", "Ann", "a b", strings.Repeat("a", 17), strings.Repeat("a", 4096), strings.Repeat("a", 4097), strings.Repeat("\xff", 1<<20)} {
		for _, device := range []int{0, 1, 5, -1, math.MinInt, math.MaxInt} {
			l := api.Listing{Name: name, Device: device, Signed: x}
			got, e := prekeys.Signed(l, y, random)
			l.Identity = curve.Public(y)
			l.Sig, _ = sign.Lend(y, signedByWords(l), random)
			if got != l || e != api.OK {
				t.Fatalf("Signed of %d bytes, %d: %v", len(name), device, e)
			}
			if len(name) > 4096 {
				if want, _ := sign.Lend(y, []byte("pawl listing"), random); got.Sig != want {
					t.Errorf("a name of %d bytes: another signature", len(name))
				}
			}
			checkCheck(t, "no name or number", got, api.ErrName)
		}
	}
}

func TestSignedSizes(t *testing.T) {
	l := api.Listing{Name: "ann", Device: 1, Identity: x, Signed: y}
	for _, n := range []int{0, 1, 31, 32, 63, 65, 96, 128, 64 + 256, 1 << 20} {
		if got, e := prekeys.Signed(l, x, make([]byte, n)); got != (api.Listing{}) || e != api.ErrSize {
			t.Errorf("%d bytes of chance: %v, %v", n, got, e)
		}
	}
	if got, e := prekeys.Signed(l, x, nil); got != (api.Listing{}) || e != api.ErrSize {
		t.Errorf("no chance: %v, %v", got, e)
	}
	if _, e := prekeys.Signed(l, x, make([]byte, 200)[:64]); e != api.OK {
		t.Errorf("64 bytes of chance, and room: %v", e)
	}
}

// Another chance, another signature; each is right.
func TestSignedByChance(t *testing.T) {
	seen := map[api.Signature]int{}
	for i := range 20 {
		random := make([]byte, 64)
		random[i*3] = 1
		l, e := prekeys.Signed(api.Listing{Name: "ann", Device: 1}, x, random)
		if e != api.OK {
			t.Fatal(e)
		}
		seen[l.Sig]++
		checkCheck(t, "Signed", l, api.OK)
	}
	if len(seen) != 20 {
		t.Errorf("%d signatures", len(seen))
	}
}

// Names and numbers of devices at their edges, each with a signature that holds.
func TestCheckNames(t *testing.T) {
	for n := range 20 {
		want := api.ErrName
		if n >= 1 && n <= 16 {
			want = api.OK
		}
		checkCheck(t, strings.Repeat("q", n), ann.line(strings.Repeat("q", n), 1, 1), want)
	}
	for _, name := range []string{"a", "z", "az", "abcdefghijklmnop"} {
		checkCheck(t, name, ann.line(name, 1, 1), api.OK)
	}
	for _, name := range []string{"A", "Z", "`", "{", "0", " ", "\x00", "\xff", "\xe1", "ö", "ann ", " ann", "an n", "ann\n", "aNn", "a-b", strings.Repeat("ö", 8), strings.Repeat("a", 272), strings.Repeat("a", 5000)} {
		checkCheck(t, name, ann.line(name, 1, 1), api.ErrName)
	}
	for _, device := range []int{1, 2, 3, 4} {
		checkCheck(t, "a device", ann.line("ann", device, 1), api.OK)
	}
	for _, device := range []int{0, 5, 6, -1, -2, -4, 256 + 1, 1<<32 + 1, 1<<16 + 4, -1<<32 + 2, math.MaxInt, math.MinInt, math.MinInt + 1} {
		checkCheck(t, "no device", ann.line("ann", device, 1), api.ErrName)
	}
}

// Where the name or the number is none, that is what is told, whatever the signature is.
func TestCheckNameFirst(t *testing.T) {
	for _, l := range []api.Listing{{}, {Name: "Ann", Device: 1}, {Name: "ann"}, {Name: "ann", Device: 5, Identity: ann.identity}, {Device: 2}} {
		checkCheck(t, "unsigned", l, api.ErrName)
	}
	checkCheck(t, "unsigned, with a name", api.Listing{Name: "ann", Device: 1}, api.ErrSigned)
}

// Each bit of what is signed, and of the signature.
func TestCheckBits(t *testing.T) {
	l := ann.line("ann", 2, 0x01020304)
	checkCheck(t, "as it is", l, api.OK)
	spoil := func(what string, change func(l *api.Listing)) {
		t.Helper()
		other := l
		change(&other)
		checkCheck(t, what, other, api.ErrSigned)
	}
	for bit := range 256 {
		spoil("Signed", func(l *api.Listing) { l.Signed = turned(l.Signed, bit) })
		spoil("Identity", func(l *api.Listing) { l.Identity = turned(l.Identity, bit) })
	}
	for bit := range 512 {
		spoil("Sig", func(l *api.Listing) { l.Sig[bit/8] ^= 1 << (bit % 8) })
	}
	for bit := range 32 {
		spoil("Number", func(l *api.Listing) { l.Number ^= 1 << bit })
	}
	spoil("Gone", func(l *api.Listing) { l.Gone = true })
	for _, device := range []int{1, 3, 4} {
		spoil("Device", func(l *api.Listing) { l.Device = device })
	}
	for _, name := range []string{"a", "an", "anna", "bnn", "aan", "annnnnnnnnnnnnnn"} {
		spoil("Name", func(l *api.Listing) { l.Name = name })
	}
	spoil("no signature", func(l *api.Listing) { l.Sig = api.Signature{} })
	spoil("another's", func(l *api.Listing) { l.Identity = bob.identity })
	spoil("another listing's", func(l *api.Listing) { l.Sig = ann.line("ann", 2, 1).Sig })
}

// What is signed is the twelve bytes and the text behind them: nothing else will do.
func TestCheckWhatIsSigned(t *testing.T) {
	l := api.Listing{Name: "ann", Device: 1, Signed: x, Number: 7}
	l.Identity = curve.Public(y)
	text := textByWords(l)
	for i, b := range [][]byte{text, packByWords(l), slices.Concat([]byte("pawl listing "), text), slices.Concat([]byte("pawl"), text), slices.Concat([]byte("Pawl listing"), text), slices.Concat(text, []byte("pawl listing")), []byte("pawl listing"), slices.Concat([]byte("pawl listing"), packByWords(l)), nil} {
		l.Sig, _ = sign.Lend(y, b, make([]byte, 64))
		checkCheck(t, string(rune('0'+i)), l, api.ErrSigned)
	}
	l.Sig, _ = sign.Lend(y, slices.Concat([]byte("pawl listing"), text), make([]byte, 64))
	checkCheck(t, "the bytes that are signed", l, api.OK)
}

// Identities that sign nothing: no number of the curve, another form of one, one for which anybody could sign.
func TestCheckIdentities(t *testing.T) {
	minus := keyOf(prime)
	minus[0]--
	for _, identity := range append(slices.Clone(smallNumbers), minus, keyOf(prime), api.Key{2}, api.Key{31: 0x80}, turned(ann.identity, 255)) {
		l := ann.line("ann", 1, 1)
		l.Identity = identity
		checkCheck(t, "an identity that signs nothing", l, api.ErrSigned)
		l.Sig = api.Signature{1}
		checkCheck(t, "with the neutral point", l, api.ErrSigned)
	}
	other := bob.line("ann", 1, 1)
	checkCheck(t, "somebody else's listing", other, api.OK)
}
