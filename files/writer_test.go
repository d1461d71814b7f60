package files_test

import (
	"bytes"
	"math/rand"
	"slices"
	"testing"

	"pawl/api"
	"pawl/files"
)

// P25.8 and P25.10: files that are written piece by piece.

// hand is a writer beside what came to it and what it must have given out by now.
type hand struct {
	t     *testing.T
	w     *files.Writer
	key   api.Key
	plain []byte
	given int // how many sealed chunks
	out   []byte
}

func begin(t *testing.T, key api.Key) *hand {
	t.Helper()
	w := files.NewWriter(key)
	if w == nil {
		t.Fatal("no writer")
	}
	return &hand{t: t, w: w, key: key}
}

// sure is the sealed chunks that another byte came behind, beyond those that were given out.
func (h *hand) sure() []byte {
	var out []byte
	for l := chunksOf(h.plain); h.given < len(l)-1; h.given++ {
		out = append(out, boxBy(h.key, nonceByWords(h.given, false), l[h.given])...)
	}
	return out
}

func (h *hand) write(b []byte) {
	h.t.Helper()
	h.plain = slices.Concat(h.plain, b)
	want := h.sure()
	got, e := h.w.Write(b)
	if e != api.OK || !bytes.Equal(got, want) {
		h.t.Fatalf("Write of %d bytes, %d in all: %d bytes, %v, not %d bytes", len(b), len(h.plain), len(got), e, len(want))
	}
	h.out = append(h.out, got...)
}

func (h *hand) close() {
	h.t.Helper()
	boxes := boxesBy(h.key, h.plain)
	got, digest, e := h.w.Close()
	if e != api.OK || digest != rootOf(boxes) || !bytes.Equal(got, boxes[len(boxes)-1]) {
		h.t.Errorf("Close of %d bytes: %x, %x, %v", len(h.plain), got, digest, e)
	}
	if all := slices.Concat(h.out, got); !bytes.Equal(all, slices.Concat(boxes...)) {
		h.t.Errorf("of %d bytes all is %d bytes, and others", len(h.plain), len(all))
	}
	h.closed()
}

// closed holds that nothing more is taken or given.
func (h *hand) closed() {
	h.t.Helper()
	for _, b := range [][]byte{nil, {}, {1}, make([]byte, 300), make([]byte, most+1)} {
		if got, e := h.w.Write(b); got != nil || e != api.ErrArg {
			h.t.Errorf("Write of %d bytes behind Close: %x, %v", len(b), got, e)
		}
	}
	for range 2 {
		if got, digest, e := h.w.Close(); got != nil || digest != (api.Key{}) || e != api.ErrArg {
			h.t.Errorf("Close behind Close: %x, %x, %v", got, digest, e)
		}
	}
}

func TestWriterInTwo(t *testing.T) {
	for _, n := range []int{1, 255, 256, 257, 600} {
		plain := drawn(51, n)
		for at := range n + 1 {
			h := begin(t, keyOf(51))
			h.write(plain[:at])
			h.write(plain[at:])
			h.close()
		}
	}
}

func TestWriterByteByByte(t *testing.T) {
	for _, n := range []int{0, 1, 255, 256, 257, 511, 512, 513, 700} {
		h := begin(t, keyOf(52))
		for _, b := range drawn(52, n) {
			h.write([]byte{b})
		}
		h.close()
	}
}

// Writes of nothing, ahead, between and behind.
func TestWriterOfNothing(t *testing.T) {
	for _, n := range []int{0, 1, 256, 257, 512} {
		h := begin(t, keyOf(53))
		h.write(nil)
		h.write([]byte{})
		h.write(drawn(53, n))
		h.write(nil)
		h.write([]byte{})
		h.close()
	}
	h := begin(t, keyOf(53))
	h.close()
}

func TestWriterWhole(t *testing.T) {
	for _, n := range lengths {
		plain := drawn(54, n)
		h := begin(t, keyOf(54))
		h.write(plain)
		h.close()
		h = begin(t, keyOf(54))
		for c := range slices.Chunk(plain, full) {
			h.write(c)
		}
		h.close()
	}
}

func TestWriterDrawn(t *testing.T) {
	r := rand.New(rand.NewSource(55))
	for range 60 {
		h := begin(t, keyOf(r.Int63()))
		for range r.Intn(12) {
			h.write(drawn(r.Int63(), []int{r.Intn(5), r.Intn(300), 255 + r.Intn(3), r.Intn(1200)}[r.Intn(4)]))
		}
		h.close()
	}
}

// refuses holds that more than fits is refused, whatever is handed in.
func (h *hand) refuses(room int) {
	h.t.Helper()
	for _, more := range []int{1, 2, 255, 256, 257, most, 2 * most} {
		if got, e := h.w.Write(make([]byte, room+more)); got != nil || e != api.ErrLong {
			h.t.Errorf("Write of %d bytes behind %d: %d bytes, %v", room+more, len(h.plain), len(got), e)
		}
	}
}

// Of what is too long nothing is taken, and what fits goes on.
func TestWriterAtTheBound(t *testing.T) {
	plain := drawn(56, most)
	for _, at := range []int{0, 1, 256, 257, 1000, most - 257, most - 256, most - 1, most} {
		h := begin(t, keyOf(56))
		h.refuses(most)
		h.write(plain[:at])
		h.refuses(most - at)
		h.write(nil)
		h.write(plain[at:])
		h.refuses(0)
		h.write(nil)
		h.close()
	}
	h := begin(t, keyOf(56))
	h.write(plain[:300])
	h.refuses(most - 300)
	h.write(plain[300:700])
	h.refuses(most - 700)
	h.close()
}

// Two writers know nothing of one another, and nothing of Seal.
func TestWritersByTurns(t *testing.T) {
	one, two, three := begin(t, keyOf(57)), begin(t, keyOf(57)), begin(t, keyOf(58))
	for i := range 40 {
		one.write(drawn(int64(i), 50))
		two.write(drawn(int64(-i), 7*i))
		files.Seal(keyOf(57), drawn(5, 300))
		three.write(drawn(int64(i), 256))
	}
	two.close()
	one.write(drawn(99, 300))
	one.close()
	three.close()
}
