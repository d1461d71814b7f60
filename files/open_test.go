package files_test

import (
	"bytes"
	"slices"
	"testing"

	"pawl/api"
	"pawl/files"
)

// P25.4, P25.6 and P25.13: what opens, and what does not.

// refuses holds that Open refuses, as the words do, for this reason.
func refuses(t *testing.T, what string, key, digest api.Key, sealed []byte, why api.Errno) {
	t.Helper()
	opens(t, what, key, digest, sealed)
	if got, e := files.Open(key, digest, sealed); e != why || got != nil {
		t.Errorf("%s: Open of %d bytes: %.40x, %v, not %v", what, len(sealed), got, e, why)
	}
}

func TestOpenRefusesInItsOrder(t *testing.T) {
	key, other := keyOf(11), keyOf(12)
	sealed, digest := sealedBy(t, key, drawn(11, 600))
	bent := turned(sealed, 5000)
	refuses(t, "another digest", key, api.Key{}, sealed, api.ErrProof)
	refuses(t, "another key", other, digest, sealed, api.ErrChunk)
	refuses(t, "another digest and key", other, api.Key{1}, sealed, api.ErrProof)
	refuses(t, "a bit turned", key, digest, bent, api.ErrProof)
	refuses(t, "a bit turned, its digest", key, digestNow(bent), bent, api.ErrChunk)
	for _, n := range []int{0, 1, 15, 273, 288, 545, 560, 1114113, 1114112 + 272} {
		b := make([]byte, n)
		copy(b, sealed)
		refuses(t, "another length", key, digest, b, api.ErrFile)
		refuses(t, "another length, no digest", key, api.Key{}, b, api.ErrFile)
		if l, e := files.Spoilt(key, b); l != nil || e != api.ErrFile {
			t.Errorf("Spoilt of %d bytes: %v, %v", n, l, e)
		}
	}
}

func TestOpenEveryBit(t *testing.T) {
	key := keyOf(13)
	for _, n := range []int{0, 1, 260} {
		sealed, digest := sealedBy(t, key, drawn(13, n))
		for bit := range 8 * len(sealed) {
			b := turned(sealed, bit)
			refuses(t, "a bit turned", key, digest, b, api.ErrProof)
			refuses(t, "a bit turned, its digest", key, digestNow(b), b, api.ErrChunk)
			if l, e := files.Spoilt(key, b); e != api.OK || !slices.Equal(l, []int{bit / 8 / 272}) {
				t.Errorf("the bit %d turned: Spoilt: %v, %v", bit, l, e)
			}
		}
		for bit := range 256 {
			refuses(t, "a bit of the digest turned", key, turnedKey(digest, bit), sealed, api.ErrProof)
			refuses(t, "a bit of the key turned", turnedKey(key, bit), digest, sealed, api.ErrChunk)
		}
	}
}

// Each set of chunks spoiled is told, and opens only where it is none.
func TestSpoilt(t *testing.T) {
	key := keyOf(14)
	for _, n := range []int{0, 256, 257, 700, 5*full + 1} {
		boxes := boxesBy(key, drawn(14, n))
		for _, set := range subsets(len(boxes)) {
			b := spoiled(boxes, set...)
			tells(t, "some spoiled", key, b)
			if l, e := files.Spoilt(key, b); e != api.OK || !slices.Equal(l, set) {
				t.Errorf("%v of %d spoiled: %v, %v", set, len(boxes), l, e)
			}
			opens(t, "some spoiled", key, digestNow(b), b)
			if len(set) > 0 {
				refuses(t, "some spoiled", key, rootOf(boxes), b, api.ErrProof)
				refuses(t, "some spoiled, their digest", key, digestNow(b), b, api.ErrChunk)
			}
		}
		all, _ := files.Spoilt(keyOf(15), slices.Concat(boxes...))
		if len(all) != len(boxes) || !slices.IsSorted(all) {
			t.Errorf("another key: %v", all)
		}
	}
	boxes := boxesBy(key, drawn(14, most))
	b := spoiled(boxes, 0, 255, 256, 257, 4000, 4095)
	tells(t, "of the longest", key, b)
	refuses(t, "of the longest", key, digestNow(b), b, api.ErrChunk)
	b = spoiled(boxes, 4095)
	refuses(t, "of the longest, its last", key, digestNow(b), b, api.ErrChunk)
	tells(t, "of the longest, another key", keyOf(15), b)
}

// Bytes that nobody sealed.
func TestDrawnBytes(t *testing.T) {
	b := drawn(16, 900)
	for n := range b {
		tells(t, "drawn bytes", keyOf(16), b[:n])
		opens(t, "drawn bytes", keyOf(16), digestNow(b[:n]), b[:n])
		if _, e := files.Open(keyOf(16), digestNow(b[:n]), b[:n]); e != api.ErrFile && e != api.ErrChunk {
			t.Errorf("%d drawn bytes: %v", n, e)
		}
	}
}

// moved is a sealed file's chunks in every other order by two, without each one, with each one twice in a row and at the end.
func moved(boxes [][]byte) [][][]byte {
	var all [][][]byte
	for i := range boxes {
		for j := range i {
			l := slices.Clone(boxes)
			l[i], l[j] = l[j], l[i]
			all = append(all, l)
		}
		all = append(all, slices.Delete(slices.Clone(boxes), i, i+1), slices.Insert(slices.Clone(boxes), i, boxes[i]), append(slices.Clone(boxes), boxes[i]))
	}
	return all
}

func TestPlaces(t *testing.T) {
	key := keyOf(17)
	for _, n := range []int{256, 257, 512, 513, 700, 1024, 1025, 1500} {
		boxes := boxesBy(key, drawn(17, n))
		for _, l := range moved(boxes) {
			b := slices.Concat(l...)
			opens(t, "moved", key, digestNow(b), b)
			tells(t, "moved", key, b)
			got, e := files.Open(key, digestNow(b), b)
			if got != nil || e != api.ErrFile && e != api.ErrChunk {
				t.Errorf("%d bytes, moved: %.40x, %v", n, got, e)
			}
			opens(t, "moved, the digest that was", key, rootOf(boxes), b)
		}
	}
}

func TestEnds(t *testing.T) {
	key := keyOf(18)
	for _, n := range []int{0, 1, 256, 257, 600} {
		sealed, digest := sealedBy(t, key, drawn(18, n))
		for end := range sealed {
			b := sealed[:end]
			opens(t, "cut off", key, digest, b)
			got, e := files.Open(key, digestNow(b), b)
			if got != nil || e != api.ErrFile && e != api.ErrChunk {
				t.Errorf("%d bytes, cut off at %d: %.40x, %v", n, end, got, e)
			}
			opens(t, "cut off, its digest", key, digestNow(b), b)
			tells(t, "cut off", key, b)
		}
		for more := range 40 {
			b := append(slices.Clone(sealed), make([]byte, more+1)...)
			opens(t, "with bytes behind it", key, digest, b)
			opens(t, "with bytes behind it, its digest", key, digestNow(b), b)
		}
	}
}

// Chunks of another file under the same key open where their places are alike: nothing in a chunk tells whose it is but the digest.
func TestMixed(t *testing.T) {
	key := keyOf(19)
	one, two := boxesBy(key, drawn(19, 600)), boxesBy(key, drawn(20, 900))
	b := slices.Concat(one[0], two[1], one[2])
	refuses(t, "mixed, the digest of one", key, rootOf(one), b, api.ErrProof)
	opens(t, "mixed", key, digestNow(b), b)
	if l, e := files.Spoilt(key, b); e != api.OK || len(l) > 0 {
		t.Errorf("mixed: Spoilt: %v, %v", l, e)
	}
	want := slices.Concat(drawn(19, 600)[:256], drawn(20, 900)[256:512], drawn(19, 600)[512:])
	if got, e := files.Open(key, digestNow(b), b); e != api.OK || !bytes.Equal(got, want) {
		t.Errorf("mixed: %.40x, %v", got, e)
	}
	// The third of two is not the last one there.
	b = slices.Concat(one[0], one[1], two[2])
	refuses(t, "mixed, a chunk that was not the last", key, digestNow(b), b, api.ErrChunk)
	b = slices.Concat(two[0], one[1], two[2], two[3])
	opens(t, "mixed the other way", key, digestNow(b), b)
	b = slices.Concat(two[0], two[1], one[2])
	opens(t, "mixed, the end of another", key, digestNow(b), b)
}

// Chunks sealed with a nonce that is another one's: its number's other bytes, the mark of the last one, the seven bytes that are 0.
func TestOtherNonces(t *testing.T) {
	key, plain := keyOf(21), drawn(21, 600)
	boxes := boxesBy(key, plain)
	for i, c := range chunksOf(plain) {
		for bit := range 128 {
			l := slices.Clone(boxes)
			l[i] = boxBy(key, turned(nonceByWords(i, i == 2), bit), c)
			b := slices.Concat(l...)
			refuses(t, "another nonce", key, digestNow(b), b, api.ErrChunk)
			tells(t, "another nonce", key, b)
		}
	}
}
