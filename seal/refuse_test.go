package seal_test

import (
	"math/rand"
	"slices"
	"testing"

	"pawl/api"
	"pawl/seal"
)

// P6.5

// Example 2, its first parts.
func TestOpenExamples(t *testing.T) {
	r := rand.New(rand.NewSource(121))
	key, nonce := drawnKey(r), drawnNonce(r)
	box := sealed(t, key, nonce, []byte("b"), []byte("hello"))
	checkOpens(t, key, nonce, []byte("b"), box, []byte("hello"))
	last := slices.Clone(box)
	last[len(last)-1] ^= 0xff
	checkRefused(t, key, nonce, []byte("b"), last, api.ErrTag)
	checkRefused(t, key, nonce, []byte("a"), box, api.ErrTag)
	for bit := range 8 * len(nonce) {
		checkRefused(t, key, api.Nonce(turned(nonce[:], bit)), []byte("b"), box, api.ErrTag)
	}
}

func TestEveryBitOfABoxTurned(t *testing.T) {
	r := rand.New(rand.NewSource(122))
	for _, n := range []int{0, 1, 15, 16, 17, 40} {
		key, nonce, extra := drawnKey(r), drawnNonce(r), drawn(r, 7)
		box := sealed(t, key, nonce, extra, drawn(r, n))
		for bit := range 8 * len(box) {
			checkRefused(t, key, nonce, extra, turned(box, bit), api.ErrTag)
		}
	}
}

// The tag alone is another: any of them but the right one is refused.
func TestAnotherTag(t *testing.T) {
	r := rand.New(rand.NewSource(123))
	for _, n := range []int{0, 1, 16, 33} {
		key, nonce, extra, plain := drawnKey(r), drawnNonce(r), drawn(r, 7), drawn(r, n)
		box := sealed(t, key, nonce, extra, plain)
		for range 200 {
			checkRefused(t, key, nonce, extra, slices.Concat(box[:n], drawn(r, 16)), api.ErrTag)
		}
		for i := range 16 {
			for x := range 256 {
				other := slices.Clone(box)
				other[n+i] ^= byte(x)
				if x == 0 {
					checkOpens(t, key, nonce, extra, other, plain)
				} else {
					checkRefused(t, key, nonce, extra, other, api.ErrTag)
				}
			}
		}
		// Two bytes turned by as much would cancel, where the differences were only added up.
		for i := range 15 {
			other := slices.Clone(box)
			other[n+i] ^= 0x41
			other[n+i+1] ^= 0x41
			checkRefused(t, key, nonce, extra, other, api.ErrTag)
		}
	}
}

func TestAnotherKeyNonceOrExtra(t *testing.T) {
	r := rand.New(rand.NewSource(124))
	for _, n := range []int{0, 1, 16, 33} {
		key, nonce, extra := drawnKey(r), drawnNonce(r), drawn(r, 20)
		box := sealed(t, key, nonce, extra, drawn(r, n))
		for bit := range 8 * len(key) {
			checkRefused(t, api.Key(turned(key[:], bit)), nonce, extra, box, api.ErrTag)
		}
		for bit := range 8 * len(nonce) {
			checkRefused(t, key, api.Nonce(turned(nonce[:], bit)), extra, box, api.ErrTag)
		}
		for bit := range 8 * len(extra) {
			checkRefused(t, key, nonce, turned(extra, bit), box, api.ErrTag)
		}
		for cut := range len(extra) {
			checkRefused(t, key, nonce, extra[:cut], box, api.ErrTag)
			checkRefused(t, key, nonce, extra[cut+1:], box, api.ErrTag)
		}
		checkRefused(t, key, nonce, slices.Concat(extra, []byte{0}), box, api.ErrTag)
		checkRefused(t, key, nonce, slices.Concat([]byte{0}, extra), box, api.ErrTag)
		checkRefused(t, key, nonce, slices.Concat(extra, extra), box, api.ErrTag)
	}
}

func TestABoxCutOrLengthened(t *testing.T) {
	r := rand.New(rand.NewSource(125))
	key, nonce, extra := drawnKey(r), drawnNonce(r), drawn(r, 20)
	box := sealed(t, key, nonce, extra, drawn(r, 40))
	for n := range len(box) {
		why := api.ErrTag
		if n < 16 {
			why = api.ErrShort
		}
		checkRefused(t, key, nonce, extra, box[:n], why)
		checkRefused(t, key, nonce, extra, box[len(box)-n:], why)
	}
	for i := range len(box) + 1 {
		checkRefused(t, key, nonce, extra, slices.Insert(slices.Clone(box), i, byte(r.Intn(256))), api.ErrTag)
		checkRefused(t, key, nonce, extra, slices.Insert(slices.Clone(box), i, drawn(r, 16)...), api.ErrTag)
	}
	for i := range len(box) {
		checkRefused(t, key, nonce, extra, slices.Delete(slices.Clone(box), i, i+1), api.ErrTag)
	}
	checkRefused(t, key, nonce, extra, slices.Concat(box, box), api.ErrTag)
}

// Example 2, its last part: what stands under the sum is one and the same row of bytes but for the number ahead of it.
func TestBytesMovedBetweenTheParts(t *testing.T) {
	r := rand.New(rand.NewSource(126))
	for range 200 {
		key, nonce, extra := drawnKey(r), drawnNonce(r), drawn(r, 1+r.Intn(40))
		box := sealed(t, key, nonce, extra, drawn(r, 1+r.Intn(40)))
		checkRefused(t, key, nonce, slices.Concat(extra, box[:1]), box[1:], api.ErrTag)
		checkRefused(t, key, nonce, extra[:len(extra)-1], slices.Concat(extra[len(extra)-1:], box), api.ErrTag)
		checkRefused(t, key, nonce, nil, slices.Concat(extra, box), api.ErrTag)
		checkRefused(t, key, nonce, slices.Concat(extra, box[:len(box)-16]), box[len(box)-16:], api.ErrTag)
		// The row extra | nonce | text, cut anew so that the nonce is one byte further on, or one byte ahead.
		row := slices.Concat(extra, nonce[:], box)
		for _, at := range []int{len(extra) - 1, len(extra) + 1} {
			checkRefused(t, key, api.Nonce(row[at:]), row[:at], row[at+16:], api.ErrTag)
		}
		checkRefused(t, key, nonce, row[1:len(extra)], slices.Concat(box[:len(box)-16], row[:1], box[len(box)-16:]), api.ErrTag)
	}
}

// Whatever is another opens just where the tag is that of what it has now.
func TestAnotherOneOpensWithItsOwnTag(t *testing.T) {
	r := rand.New(rand.NewSource(127))
	for range 300 {
		key, nonce, extra := drawnKey(r), drawnNonce(r), drawn(r, r.Intn(30))
		box := sealed(t, key, nonce, extra, drawn(r, 1+r.Intn(60)))
		text := box[:len(box)-16]
		for _, c := range []struct {
			key         api.Key
			nonce       api.Nonce
			extra, text []byte
		}{
			{drawnKey(r), nonce, extra, text},
			{key, drawnNonce(r), extra, text},
			{key, nonce, drawn(r, len(extra)+1), text},
			{key, nonce, extra, turned(text, r.Intn(8*len(text)))},
			{key, nonce, extra, text[1:]},
			{key, nonce, extra, slices.Concat(text, text)},
		} {
			checkRefused(t, c.key, c.nonce, c.extra, slices.Concat(c.text, box[len(text):]), api.ErrTag)
			want := textByWords(t, c.key, c.nonce, c.text) // the same call turns it back
			checkOpens(t, c.key, c.nonce, c.extra, tagged(t, c.key, c.nonce, c.extra, c.text), want)
		}
	}
}

// A refusal hangs on nothing that came ahead of it, and leaves nothing behind.
func TestCallsKnowNothingOfOneAnother(t *testing.T) {
	r := rand.New(rand.NewSource(128))
	key, nonce, extra, plain := drawnKey(r), drawnNonce(r), drawn(r, 9), drawn(r, 50)
	want := boxByWords(t, key, nonce, extra, plain)
	for range 5 {
		checkRefused(t, key, nonce, extra, turned(want, 3), api.ErrTag)
		checkRefused(t, key, nonce, extra, want[:9], api.ErrShort)
		checkOpens(t, key, nonce, extra, want, plain)
		if got, e := seal.Seal(key, nonce, extra, plain); e != api.OK || !slices.Equal(got, want) {
			t.Errorf("Seal again: %x, %v, not %x", got, e, want)
		}
		sealed(t, drawnKey(r), drawnNonce(r), drawn(r, 3), drawn(r, 30))
	}
}
