package files_test

import (
	"bytes"
	"slices"
	"testing"

	"pawl/api"
	"pawl/files"
)

// P25.2, P25.3 and P25.9: sealed files and their digests.

// evenKey has one byte throughout.
func evenKey(x byte) api.Key { return api.Key(bytes.Repeat([]byte{x}, 32)) }

// checkSealed holds what Seal makes of a file against the words, and that it comes back.
func checkSealed(t *testing.T, key api.Key, plain []byte) {
	t.Helper()
	boxes := boxesBy(key, plain)
	want, wantDigest := slices.Concat(boxes...), rootOf(boxes)
	sealed, digest, e := files.Seal(key, plain)
	if e != api.OK || !bytes.Equal(sealed, want) || digest != wantDigest {
		t.Errorf("Seal of %d bytes: %d bytes, %x, %v", len(plain), len(sealed), digest, e)
	}
	if size, _ := files.Size(len(plain)); size != len(want) {
		t.Errorf("Size(%d): %d", len(plain), size)
	}
	if n, _ := files.Plain(len(want)); n != len(plain) {
		t.Errorf("Plain(%d): %d", len(want), n)
	}
	digests(t, "of Seal", want)
	if got, e := files.Open(key, wantDigest, want); e != api.OK || !bytes.Equal(got, plain) {
		t.Errorf("Open of a file of %d bytes: %.40x, %v", len(plain), got, e)
	}
	if got, e := files.Range(key, want, 0, len(plain)); e != api.OK || !bytes.Equal(got, plain) {
		t.Errorf("Range of all %d bytes: %.40x, %v", len(plain), got, e)
	}
	if l, e := files.Spoilt(key, want); e != api.OK || len(l) > 0 {
		t.Errorf("Spoilt of a file of %d bytes: %v, %v", len(plain), l, e)
	}
}

func TestSeal(t *testing.T) {
	for _, n := range lengths {
		checkSealed(t, keyOf(int64(n)), drawn(int64(n), n))
	}
	for _, x := range []byte{0, 1, 0xff} {
		for _, n := range []int{0, 1, 256, 600} {
			checkSealed(t, evenKey(x), bytes.Repeat([]byte{x}, n))
		}
	}
	// Chunks whose numbers have two bytes that are not 0.
	checkSealed(t, keyOf(1), drawn(1, 300*full+77))
}

func TestSealAtTheBound(t *testing.T) {
	b := drawn(4, 2*most)
	for _, n := range []int{most - full, most - 1, most} {
		checkSealed(t, keyOf(4), b[:n])
	}
	for _, n := range []int{most + 1, most + 255, most + 256, most + 257, 1114112, 2*most - 1, 2 * most} {
		if got, digest, e := files.Seal(keyOf(4), b[:n]); got != nil || digest != (api.Key{}) || e != api.ErrLong {
			t.Errorf("Seal of %d bytes: %d bytes, %x, %v", n, len(got), digest, e)
		}
	}
}

// The digest is that of any bytes, whether they open under any key or not: cut by their places alone.
func TestDigest(t *testing.T) {
	b := drawn(5, 1114112+400)
	for n := range 1200 {
		digests(t, "of drawn bytes", b[:n])
	}
	for _, n := range []int{1114112 - 272, 1114112 - 256, 1114112 - 255, 1114111, 1114112, 1114113, 1114112 + 16, 1114112 + 17, 1114112 + 272} {
		digests(t, "of drawn bytes", b[:n])
	}
	digests(t, "of bytes 0", make([]byte, 16))
	digests(t, "of bytes 0", make([]byte, 3*272))
	for bit := range 8 * 290 {
		digests(t, "of drawn bytes", turned(b[:290], bit))
	}
}

// Every file has a digest and sealed bytes of its own; so has every key.
func TestSealIsOfKeyAndFile(t *testing.T) {
	plain := drawn(6, 300)
	sealed, digest := sealedBy(t, keyOf(6), plain)
	for bit := range 256 {
		other, otherDigest := sealedBy(t, turnedKey(keyOf(6), bit), plain)
		if bytes.Equal(other[:272], sealed[:272]) || bytes.Equal(other[272:], sealed[272:]) || otherDigest == digest {
			t.Errorf("the key's bit %d makes no difference", bit)
		}
	}
	for i := range plain {
		other, otherDigest := sealedBy(t, keyOf(6), turned(plain, 8*i+i%8))
		if len(other) != len(sealed) || otherDigest == digest {
			t.Errorf("the byte %d makes no difference", i)
		}
	}
	if again, digestAgain := sealedBy(t, keyOf(6), plain); !bytes.Equal(again, sealed) || digestAgain != digest {
		t.Errorf("sealed again: %.40x, %x", again, digestAgain)
	}
}
