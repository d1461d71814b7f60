package seal_test

import (
	"bytes"
	"math/rand"
	"slices"
	"testing"

	"pawl/api"
	"pawl/block"
	"pawl/mac"
	"pawl/seal"
)

// lengths is how many bytes are sealed: none, around one block of the stream or of the sum, and several blocks.
var lengths = []int{0, 1, 2, 15, 16, 17, 31, 32, 33, 47, 48, 49, 63, 64, 65, 100, 255, 256, 257, 1000, 5000}

// extras is how many extra bytes: their number's lowest byte, its second and its third are all of them used.
var extras = []int{0, 1, 2, 7, 8, 9, 15, 16, 17, 31, 32, 33, 39, 40, 41, 55, 56, 57, 63, 64, 65, 255, 256, 257, 65535, 65536, 65537}

// P6.1

func TestKeys(t *testing.T) {
	r := rand.New(rand.NewSource(101))
	for _, key := range manyKeys(r, 200) {
		was := key
		crypt, tag := seal.Keys(key)
		all, e := mac.Expand(key, []byte("pawl seal"), 64)
		if e != api.OK || !bytes.Equal(all, slices.Concat(crypt[:], tag[:])) {
			t.Errorf("Keys of %x: %x, %x, not %x", key, crypt, tag, all)
		}
		if c, g := keysByWords(t, key); crypt != c || tag != g {
			t.Errorf("Keys of %x: %x, %x, the library says %x, %x", key, crypt, tag, c, g)
		}
		if crypt == tag || key != was {
			t.Errorf("Keys of %x: both alike, or the key changed: %x", was, key)
		}
	}
}

func TestKeysHangOnTheKeyAlone(t *testing.T) {
	r := rand.New(rand.NewSource(102))
	key := drawnKey(r)
	crypt, tag := seal.Keys(key)
	wasCrypt, wasTag := crypt, tag
	fill(crypt[:])
	fill(tag[:])
	sealed(t, key, drawnNonce(r), drawn(r, 5), drawn(r, 50))
	seal.Keys(drawnKey(r))
	if crypt, tag = seal.Keys(key); crypt != wasCrypt || tag != wasTag {
		t.Errorf("asked again: %x, %x, not %x, %x", crypt, tag, wasCrypt, wasTag)
	}
}

// P6.2

func TestSealOfLengths(t *testing.T) {
	r := rand.New(rand.NewSource(103))
	for _, n := range lengths {
		for _, m := range extras {
			key, nonce, extra, plain := drawnKey(r), drawnNonce(r), drawn(r, m), drawn(r, n)
			box := sealed(t, key, nonce, extra, plain)
			if want := boxByWords(t, key, nonce, extra, plain); !bytes.Equal(box, want) {
				t.Errorf("Seal of %d bytes with %d extra: %.60x, not %.60x", n, m, box, want)
			}
			if len(box) != n+16 {
				t.Errorf("Seal of %d bytes with %d extra: %d bytes", n, m, len(box))
			}
		}
	}
}

// The rule itself, with the calls of the layers below.
func TestSealByItsParts(t *testing.T) {
	r := rand.New(rand.NewSource(104))
	for _, n := range lengths {
		key, nonce, plain := drawnKey(r), drawnNonce(r), drawn(r, n)
		extra := drawn(r, 0x0102)
		crypt, tag := seal.Keys(key)
		text := block.Crypt(crypt, nonce, 0, plain)
		sum := mac.Sum(tag[:], slices.Concat([]byte{2, 1, 0, 0, 0, 0, 0, 0}, extra, nonce[:], text))
		if box := sealed(t, key, nonce, extra, plain); !bytes.Equal(box, slices.Concat(text, sum[:16])) {
			t.Errorf("Seal of %d bytes: %.60x, not %.60x | %x", n, box, text, sum[:16])
		}
	}
}

func TestSealUnderManyKeysAndNonces(t *testing.T) {
	r := rand.New(rand.NewSource(105))
	for _, key := range manyKeys(r, 50) {
		for _, nonce := range manyNonces(r) {
			extra, plain := drawn(r, r.Intn(20)), drawn(r, r.Intn(60))
			want := boxByWords(t, key, nonce, extra, plain)
			if box := sealed(t, key, nonce, extra, plain); !bytes.Equal(box, want) {
				t.Errorf("Seal of %d bytes under %x and %x: %x, not %x", len(plain), key, nonce, box, want)
			}
			checkOpens(t, key, nonce, extra, want, plain)
		}
	}
}

// Example 1, its first part.
func TestSealOfNoBytes(t *testing.T) {
	r := rand.New(rand.NewSource(106))
	for _, m := range extras {
		key, nonce, extra := drawnKey(r), drawnNonce(r), drawn(r, m)
		want := tagByWords(t, key, nonce, extra, nil)
		for _, plain := range [][]byte{nil, {}, make([]byte, 0, 40)} {
			if box := sealed(t, key, nonce, extra, plain); len(box) != 16 || !bytes.Equal(box, want) {
				t.Errorf("Seal of no bytes with %d extra: %x, not %x", m, box, want)
			}
		}
		checkOpens(t, key, nonce, extra, want, nil)
	}
}

func TestNoExtraBytesAreAlike(t *testing.T) {
	r := rand.New(rand.NewSource(107))
	for _, n := range lengths {
		key, nonce, plain := drawnKey(r), drawnNonce(r), drawn(r, n)
		want := boxByWords(t, key, nonce, nil, plain)
		for _, extra := range [][]byte{nil, {}, make([]byte, 0, 40), plain[:0], plain[n:]} {
			if box := sealed(t, key, nonce, extra, plain); !bytes.Equal(box, want) {
				t.Errorf("Seal of %d bytes without extra ones: %.60x, not %.60x", n, box, want)
			}
			checkOpens(t, key, nonce, extra, want, plain)
		}
	}
}

func TestSealOfEvenBytes(t *testing.T) {
	for _, x := range []byte{0, 1, 0x80, 0xff} {
		key, nonce, extra, plain := evenKey(x), evenNonce(x), bytes.Repeat([]byte{x}, 20), bytes.Repeat([]byte{x}, 100)
		want := boxByWords(t, key, nonce, extra, plain)
		if box := sealed(t, key, nonce, extra, plain); !bytes.Equal(box, want) {
			t.Errorf("Seal of all %02x: %x, not %x", x, box, want)
		}
		checkOpens(t, key, nonce, extra, want, plain)
	}
}

// Extra and plain may be one list, or a box that was made.
func TestSealOfABox(t *testing.T) {
	r := rand.New(rand.NewSource(108))
	key, nonce, b := drawnKey(r), drawnNonce(r), drawn(r, 30)
	for range 5 {
		want := boxByWords(t, key, nonce, b, b)
		box := sealed(t, key, nonce, b, b)
		if !bytes.Equal(box, want) {
			t.Errorf("Seal of one list as both: %x, not %x", box, want)
		}
		checkOpens(t, key, nonce, b, box, b)
		checkRefused(t, key, nonce, box, box, api.ErrTag)
		b = box
	}
}

// P6.3

// Example 1, its second part, and the boxes that have a tag alone, or not even that.
func TestOpenOfShortBoxes(t *testing.T) {
	r := rand.New(rand.NewSource(109))
	for n := range 17 {
		why := api.ErrShort
		if n == 16 {
			why = api.ErrTag
		}
		for _, m := range extras {
			checkRefused(t, drawnKey(r), drawnNonce(r), drawn(r, m), make([]byte, n), why)
			checkRefused(t, drawnKey(r), drawnNonce(r), drawn(r, m), drawn(r, n), why)
		}
		checkRefused(t, evenKey(0), evenNonce(0), nil, make([]byte, n), why)
	}
	checkRefused(t, evenKey(0), evenNonce(0), nil, nil, api.ErrShort)
	checkRefused(t, evenKey(0), evenNonce(0), nil, []byte{}, api.ErrShort)
	checkRefused(t, evenKey(0), evenNonce(0), nil, make([]byte, 0, 40), api.ErrShort)
}

// A tag cut short is no tag, be it the right one as far as it goes.
func TestOpenOfACutTag(t *testing.T) {
	r := rand.New(rand.NewSource(110))
	key, nonce, extra := drawnKey(r), drawnNonce(r), drawn(r, 5)
	box := sealed(t, key, nonce, extra, nil)
	for n := range 16 {
		checkRefused(t, key, nonce, extra, box[:n], api.ErrShort)
		checkRefused(t, key, nonce, extra, box[16-n:], api.ErrShort)
	}
	checkOpens(t, key, nonce, extra, box, nil)
}

func TestOpenOfLengths(t *testing.T) {
	r := rand.New(rand.NewSource(111))
	for _, n := range lengths {
		for _, m := range extras {
			key, nonce, extra, plain := drawnKey(r), drawnNonce(r), drawn(r, m), drawn(r, n)
			checkOpens(t, key, nonce, extra, boxByWords(t, key, nonce, extra, plain), plain)
		}
	}
}

func TestOpenOfDrawnBytes(t *testing.T) {
	r := rand.New(rand.NewSource(112))
	for range 2000 {
		checkRefused(t, drawnKey(r), drawnNonce(r), drawn(r, r.Intn(40)), drawn(r, 16+r.Intn(100)), api.ErrTag)
	}
}

// P6.4

func TestWhatWasSealedOpens(t *testing.T) {
	r := rand.New(rand.NewSource(113))
	for range 2000 {
		key, nonce, extra, plain := drawnKey(r), drawnNonce(r), drawn(r, r.Intn(100)), drawn(r, r.Intn(200))
		checkOpens(t, key, nonce, extra, sealed(t, key, nonce, extra, plain), plain)
	}
}

// Any cipher text with its tag behind it opens, and what it opens to is sealed to just that box.
func TestWhatOpensSealsToTheSameBox(t *testing.T) {
	r := rand.New(rand.NewSource(114))
	for _, n := range lengths {
		for _, m := range []int{0, 1, 40, 256} {
			key, nonce, extra := drawnKey(r), drawnNonce(r), drawn(r, m)
			box := tagged(t, key, nonce, extra, drawn(r, n))
			plain, e := seal.Open(key, nonce, extra, box)
			if e != api.OK || len(plain) != n {
				t.Errorf("Open of a box of %d bytes: %d bytes, %v", len(box), len(plain), e)
				continue
			}
			if again := sealed(t, key, nonce, extra, plain); !bytes.Equal(again, box) {
				t.Errorf("what %.60x opens to is sealed to %.60x", box, again)
			}
		}
	}
}

// Two texts under one key and nonce: the boxes differ in just the bits in which the texts do.
func TestTwoTextsDifferAsTheirBoxesDo(t *testing.T) {
	r := rand.New(rand.NewSource(115))
	for _, n := range lengths {
		key, nonce, extra, one, other := drawnKey(r), drawnNonce(r), drawn(r, 9), drawn(r, n), drawn(r, n)
		a, b := sealed(t, key, nonce, extra, one), sealed(t, key, nonce, extra, other)
		if got, want := xored(a[:n], b[:n]), xored(one, other); !bytes.Equal(got, want) {
			t.Errorf("texts of %d bytes differ by %.40x, their boxes by %.40x", n, want, got)
		}
	}
	key, nonce, plain := drawnKey(r), drawnNonce(r), drawn(r, 40)
	whole := sealed(t, key, nonce, nil, plain)
	for bit := range 8 * len(plain) {
		box := sealed(t, key, nonce, nil, turned(plain, bit))
		if !bytes.Equal(box[:40], turned(whole[:40], bit)) || bytes.Equal(box[40:], whole[40:]) {
			t.Errorf("bit %d turned: %x, ahead of it %x", bit, box, whole)
		}
	}
}

// What two boxes open to differs as the boxes do, whatever they were made of.
func TestTwoBoxesDifferAsTheirTextsDo(t *testing.T) {
	r := rand.New(rand.NewSource(116))
	for _, n := range lengths {
		key, nonce, extra, one, other := drawnKey(r), drawnNonce(r), drawn(r, 9), drawn(r, n), drawn(r, n)
		a, e := seal.Open(key, nonce, extra, tagged(t, key, nonce, extra, one))
		b, f := seal.Open(key, nonce, extra, tagged(t, key, nonce, extra, other))
		if e != api.OK || f != api.OK || !bytes.Equal(xored(a, b), xored(one, other)) {
			t.Errorf("boxes of %d bytes: %.40x and %.40x open to %.40x, %v and %.40x, %v", n, one, other, a, e, b, f)
		}
	}
}

// The extra bytes change the tag alone.
func TestExtraBytesAreNotSealed(t *testing.T) {
	r := rand.New(rand.NewSource(117))
	for _, m := range extras[1:] {
		key, nonce, extra, plain := drawnKey(r), drawnNonce(r), drawn(r, m), drawn(r, 50)
		a, b := sealed(t, key, nonce, extra, plain), sealed(t, key, nonce, nil, plain)
		if !bytes.Equal(a[:50], b[:50]) || bytes.Equal(a[50:], b[50:]) {
			t.Errorf("with %d extra bytes %x, without %x", m, a, b)
		}
	}
}
