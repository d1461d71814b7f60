package seal_test

import (
	"bytes"
	"math/rand"
	"slices"
	"testing"

	"pawl/api"
	"pawl/seal"
)

// P6.2 and P6.3: what is handed in is neither changed nor kept, and what is given is new memory.

// checkMemory holds that of a call on two lists, with room behind them.
func checkMemory(t *testing.T, what string, r *rand.Rand, extra, b []byte, call func(extra, b []byte) []byte) {
	t.Helper()
	extraRoom, room := slices.Concat(extra, drawn(r, 60)), slices.Concat(b, drawn(r, 60))
	extraWas, was := slices.Clone(extraRoom), slices.Clone(room)
	got := call(extraRoom[:len(extra)], room[:len(b)])
	if !bytes.Equal(extraRoom, extraWas) || !bytes.Equal(room, was) {
		t.Errorf("%s of %d bytes: something that was handed in has changed", what, len(b))
	}
	want := slices.Clone(got)
	clear(extraRoom)
	clear(room)
	if !bytes.Equal(got, want) {
		t.Errorf("%s of %d bytes: the answer changes with what was handed in", what, len(b))
	}
	fill(got[:cap(got)])
	if !bytes.Equal(extraRoom, make([]byte, len(extraRoom))) || !bytes.Equal(room, make([]byte, len(room))) {
		t.Errorf("%s of %d bytes: what was handed in changes with the answer", what, len(b))
	}
	other := call(extra, b)
	if !bytes.Equal(other, want) {
		t.Errorf("%s of %d bytes, asked again: %.60x, not %.60x", what, len(b), other, want)
	}
	fill(got[:cap(got)])
	if !bytes.Equal(other, want) {
		t.Errorf("%s of %d bytes: one answer changes with another", what, len(b))
	}
}

func TestMemory(t *testing.T) {
	r := rand.New(rand.NewSource(141))
	for _, n := range lengths {
		for _, m := range []int{0, 1, 30, 64} {
			key, nonce, extra, plain := drawnKey(r), drawnNonce(r), drawn(r, m), drawn(r, n)
			wasKey, wasNonce := key, nonce
			checkMemory(t, "Seal", r, extra, plain, func(extra, b []byte) []byte {
				return sealed(t, key, nonce, extra, b)
			})
			checkMemory(t, "Open", r, extra, boxByWords(t, key, nonce, extra, plain), func(extra, b []byte) []byte {
				got, e := seal.Open(key, nonce, extra, b)
				if e != api.OK || !bytes.Equal(got, plain) {
					t.Errorf("Open to %d bytes: %.60x, %v", n, got, e)
				}
				return got
			})
			if key != wasKey || nonce != wasNonce {
				t.Errorf("the key is now %x, the nonce %x", key, nonce)
			}
		}
	}
}

func TestRefusalsChangeNothing(t *testing.T) {
	r := rand.New(rand.NewSource(142))
	for n := range 60 {
		extraRoom, room := drawn(r, 80), drawn(r, 120)
		extraWas, was := slices.Clone(extraRoom), slices.Clone(room)
		if got, e := seal.Open(drawnKey(r), drawnNonce(r), extraRoom[:20], room[:n]); e == api.OK || got != nil {
			t.Errorf("Open of %d drawn bytes: %x, %v", n, got, e)
		}
		if !bytes.Equal(extraRoom, extraWas) || !bytes.Equal(room, was) {
			t.Errorf("Open of %d drawn bytes changes what was handed in", n)
		}
	}
	long := drawn(r, most+20)
	was := slices.Clone(long)
	seal.Seal(evenKey(1), evenNonce(1), nil, long[:most+1])
	seal.Open(evenKey(1), evenNonce(1), long[:most+1], long[:20])
	if !bytes.Equal(long, was) {
		t.Error("a list that is too long is changed")
	}
}
