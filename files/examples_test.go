package files_test

import (
	"bytes"
	"slices"
	"testing"

	"pawl/api"
	"pawl/files"
	"pawl/seal"
	"pawl/tree"
)

// The examples of the chapter.

func TestExampleSizes(t *testing.T) {
	for _, x := range []struct {
		n, size, chunks int
		e               api.Errno
	}{
		{0, 16, 1, api.OK},
		{256, 272, 1, api.OK},
		{257, 289, 2, api.OK},
		{1048576, 1114112, 4096, api.OK},
		{-1, 0, 0, api.ErrArg},
		{1048577, 0, 0, api.ErrLong},
	} {
		if size, e := files.Size(x.n); size != x.size || e != x.e {
			t.Errorf("Size(%d): %d, %v", x.n, size, e)
		}
		if chunks, e := files.Chunks(x.n); chunks != x.chunks || e != x.e {
			t.Errorf("Chunks(%d): %d, %v", x.n, chunks, e)
		}
	}
	for _, x := range []struct {
		n, plain int
		e        api.Errno
	}{{16, 0, api.OK}, {272, 256, api.OK}, {15, 0, api.ErrFile}, {288, 0, api.ErrFile}, {289, 257, api.OK}} {
		if plain, e := files.Plain(x.n); plain != x.plain || e != x.e {
			t.Errorf("Plain(%d): %d, %v", x.n, plain, e)
		}
	}
}

func TestExampleRange(t *testing.T) {
	plain := drawn(1, 300)
	sealed, _ := sealedBy(t, keyOf(1), plain)
	first, second := turned(sealed, 0), turned(sealed, 8*272)
	for _, x := range []struct {
		b     []byte
		at, n int
		e     api.Errno
	}{
		{sealed, 250, 10, api.OK},
		{first, 250, 10, api.ErrChunk},
		{second, 250, 10, api.ErrChunk},
		{sealed, 0, 256, api.OK},
		{first, 0, 256, api.ErrChunk},
		{second, 0, 256, api.OK},
		{sealed, 300, 0, api.OK},
		{second, 300, 0, api.OK},
		{sealed, 300, 1, api.ErrArg},
	} {
		got, e := files.Range(keyOf(1), x.b, x.at, x.n)
		if e != x.e || e == api.OK && !bytes.Equal(got, plain[x.at:x.at+x.n]) || e != api.OK && got != nil {
			t.Errorf("Range of %d bytes from %d on: %x, %v", x.n, x.at, got, e)
		}
	}
}

// The nonces, and the digest, by the calls of the layers below.
func TestExampleNonces(t *testing.T) {
	key, plain := keyOf(2), drawn(2, 513)
	for _, x := range []struct {
		n      int
		nonces []api.Nonce
	}{
		{0, []api.Nonce{{8: 1}}},
		{512, []api.Nonce{{}, {0: 1, 8: 1}}},
		{513, []api.Nonce{{}, {0: 1}, {0: 2, 8: 1}}},
	} {
		var all []byte
		var leaves []api.Key
		for i, nonce := range x.nonces {
			box, _ := seal.Seal(key, nonce, nil, plain[256*i:min(256*i+256, x.n)])
			all, leaves = append(all, box...), append(leaves, tree.Leaf(box))
		}
		if sealed, digest := sealedBy(t, key, plain[:x.n]); !bytes.Equal(sealed, all) || digest != tree.Root(leaves) {
			t.Errorf("of %d bytes: %x under %x", x.n, sealed, digest)
		}
	}
}

func TestExampleWriter(t *testing.T) {
	plain := drawn(3, 257)
	want, wantDigest := sealedBy(t, keyOf(3), plain)
	w := files.NewWriter(keyOf(3))
	none, e := w.Write(plain[:256])
	first, f := w.Write(plain[256:])
	second, digest, g := w.Close()
	if e != api.OK || f != api.OK || g != api.OK || len(none) != 0 || len(first) != 272 || len(second) != 17 {
		t.Errorf("%d, %v, %d, %v, %d, %v", len(none), e, len(first), f, len(second), g)
	}
	if !bytes.Equal(slices.Concat(first, second), want) || digest != wantDigest {
		t.Errorf("%x, %x under %x", first, second, digest)
	}
}
