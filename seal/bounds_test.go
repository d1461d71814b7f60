package seal_test

import (
	"bytes"
	"math/rand"
	"slices"
	"testing"

	"pawl/api"
	"pawl/seal"
)

// P6.2 and P6.3: the bounds, and the order in which they are asked.

const most = 1<<21 + 64 // as the document has it

// Example 3.
func TestBoundsExample(t *testing.T) {
	r := rand.New(rand.NewSource(131))
	key, nonce, plain := drawnKey(r), drawnNonce(r), drawn(r, 2097217)
	if box, e := seal.Seal(key, nonce, nil, plain); e != api.ErrLong || box != nil {
		t.Errorf("Seal of 2097217 bytes: %d bytes, %v", len(box), e)
	}
	box, e := seal.Seal(key, nonce, nil, plain[:2097216])
	if e != api.OK || len(box) != 2097232 {
		t.Fatalf("Seal of 2097216 bytes: %d bytes, %v", len(box), e)
	}
	if !bytes.Equal(box, boxByWords(t, key, nonce, nil, plain[:2097216])) {
		t.Error("Seal of 2097216 bytes: other bytes than the library's")
	}
	checkOpens(t, key, nonce, nil, box, plain[:2097216])
	checkRefused(t, key, nonce, nil, slices.Concat(box, []byte{0}), api.ErrLong)
	checkRefused(t, key, nonce, nil, tagged(t, key, nonce, nil, plain), api.ErrLong)
}

func TestMostExtraBytes(t *testing.T) {
	r := rand.New(rand.NewSource(132))
	key, nonce, extra, plain := drawnKey(r), drawnNonce(r), drawn(r, most+1), drawn(r, 20)
	for _, m := range []int{1 << 16, 1<<16 + 1, 1<<21 - 1, 1 << 21, 1<<21 + 1, most - 1, most} {
		box := sealed(t, key, nonce, extra[:m], plain)
		if !bytes.Equal(box, boxByWords(t, key, nonce, extra[:m], plain)) {
			t.Errorf("Seal with %d extra bytes: %x", m, box)
		}
		checkOpens(t, key, nonce, extra[:m], box, plain)
	}
	if box, e := seal.Seal(key, nonce, extra, plain); e != api.ErrLong || box != nil {
		t.Errorf("Seal with %d extra bytes: %x, %v", len(extra), box, e)
	}
	checkRefused(t, key, nonce, extra, boxByWords(t, key, nonce, extra, plain), api.ErrLong)
}

func TestBothAtTheirMost(t *testing.T) {
	r := rand.New(rand.NewSource(133))
	key, nonce, extra, plain := drawnKey(r), drawnNonce(r), drawn(r, most), drawn(r, most)
	box := sealed(t, key, nonce, extra, plain)
	if !bytes.Equal(box, boxByWords(t, key, nonce, extra, plain)) {
		t.Error("Seal of as many bytes as may be, with as many extra: other bytes than the library's")
	}
	checkOpens(t, key, nonce, extra, box, plain)
	checkRefused(t, key, nonce, extra[:most-1], box, api.ErrTag)
}

func TestSealRefuses(t *testing.T) {
	long := make([]byte, 1<<22)
	for _, c := range []struct {
		extra, plain int
		why          api.Errno
	}{
		{most + 1, 0, api.ErrLong},
		{0, most + 1, api.ErrLong},
		{most + 1, most + 1, api.ErrLong},
		{most + 1, 1, api.ErrLong},
		{1, most + 1, api.ErrLong},
		{most, most + 1, api.ErrLong},
		{most + 1, most, api.ErrLong},
		{most + 16, 0, api.ErrLong},
		{0, most + 16, api.ErrLong},
		{0, 1 << 22, api.ErrLong},
		{1 << 22, 0, api.ErrLong},
	} {
		if box, e := seal.Seal(evenKey(0), evenNonce(0), long[:c.extra], long[:c.plain]); e != c.why || box != nil {
			t.Errorf("Seal of %d bytes with %d extra: %d bytes, %v", c.plain, c.extra, len(box), e)
		}
	}
}

func TestOpenRefusesInItsOrder(t *testing.T) {
	long := make([]byte, 1<<22)
	for _, c := range []struct {
		extra, box int
		why        api.Errno
	}{
		// Too long comes ahead of too short, and of a tag that is another.
		{most + 1, 0, api.ErrLong},
		{most + 1, 15, api.ErrLong},
		{most + 1, 16, api.ErrLong},
		{most + 1, 100, api.ErrLong},
		{most + 1, most + 16, api.ErrLong},
		{most + 1, most + 17, api.ErrLong},
		{0, most + 17, api.ErrLong},
		{1, most + 17, api.ErrLong},
		{most, most + 17, api.ErrLong},
		{most + 16, 16, api.ErrLong},
		{1 << 22, 0, api.ErrLong},
		{0, 1 << 22, api.ErrLong},
		// At the bounds themselves nothing is too long.
		{most, 0, api.ErrShort},
		{most, 15, api.ErrShort},
		{most, 16, api.ErrTag},
		{0, most, api.ErrTag},
		{0, most + 1, api.ErrTag},
		{0, most + 15, api.ErrTag},
		{0, most + 16, api.ErrTag},
		{most, most + 16, api.ErrTag},
	} {
		checkRefused(t, evenKey(0), evenNonce(0), long[:c.extra], long[:c.box], c.why)
	}
}
