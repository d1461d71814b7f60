package wire_test

import (
	"bytes"
	"encoding/binary"
	"math"
	"math/rand"
	"slices"
	"testing"

	"pawl/api"
	"pawl/wire"
)

// edgeNumbers is 0, each power of 128 and of 2 with its neighbours, and the last number.
func edgeNumbers() []uint64 {
	out := []uint64{0, 300, math.MaxUint64, math.MaxUint64 - 1}
	for k := range 64 {
		p := uint64(1) << k
		out = append(out, p-1, p, p+1)
	}
	return out
}

func manyNumbers(r *rand.Rand) []uint64 {
	out := edgeNumbers()
	for range 3000 {
		out = append(out, drawnNumber(r))
	}
	return out
}

// P7.1

// Example 1, its first part.
func TestPutExamples(t *testing.T) {
	for _, c := range []struct {
		n    uint64
		want string
	}{
		{0, "00"}, {127, "7f"}, {128, "8001"}, {300, "ac02"}, {math.MaxUint64, "ffffffffffffffffff01"},
	} {
		if got := wire.Put(nil, c.n); !bytes.Equal(got, un(c.want)) {
			t.Errorf("Put(nil, %d): %x, not %s", c.n, got, c.want)
		}
	}
}

func TestSizeAndPut(t *testing.T) {
	r := rand.New(rand.NewSource(201))
	for _, n := range manyNumbers(r) {
		want := formByWords(n)
		if library := binary.AppendUvarint(nil, n); !bytes.Equal(want, library) {
			t.Fatalf("the words give %x for %d, the library %x", want, n, library)
		}
		if got := wire.Size(n); got != len(want) {
			t.Errorf("Size(%d): %d, not %d", n, got, len(want))
		}
		for _, b := range [][]byte{nil, {}, {0}, {0x80}, drawn(r, 9), make([]byte, 0, 40), make([]byte, 3, 40)} {
			if got := wire.Put(b, n); !bytes.Equal(got, slices.Concat(b, want)) {
				t.Errorf("Put(%x, %d): %x, not %x behind it", b, n, got, want)
			}
		}
	}
}

func TestSizeRisesAtThePowers(t *testing.T) {
	for size := 1; size < 10; size++ {
		p := uint64(1) << (7 * size)
		if a, b := wire.Size(p-1), wire.Size(p); a != size || b != size+1 {
			t.Errorf("Size(%d) is %d, Size(%d) is %d", p-1, a, p, b)
		}
	}
	if got := wire.Size(math.MaxUint64); got != 10 {
		t.Errorf("Size of the last number: %d", got)
	}
}

// P7.2

// Example 1, its second part.
func TestNumberExamples(t *testing.T) {
	for _, c := range []struct {
		b   string
		at  int
		n   uint64
		end int
		e   api.Errno
	}{
		{"8000", 0, 0, 0, api.ErrNumber},
		{"ff", 0, 0, 0, api.ErrCut},
		{"ffffffffffffffffff02", 0, 0, 0, api.ErrNumber},
		{"0507", 1, 7, 2, api.OK},
		{"05", 1, 0, 0, api.ErrCut},
		{"05", 2, 0, 0, api.ErrArg},
	} {
		if n, end, e := wire.Number(un(c.b), c.at); n != c.n || end != c.end || e != c.e {
			t.Errorf("Number(%s, %d): %d, %d, %v", c.b, c.at, n, end, e)
		}
	}
}

func TestNumberAtPlaces(t *testing.T) {
	r := rand.New(rand.NewSource(202))
	for range 300 {
		b := drawn(r, r.Intn(30))
		for at := -3; at <= len(b)+3; at++ {
			checkNumber(t, b, at)
		}
		for _, at := range []int{math.MinInt, math.MinInt + 1, math.MaxInt - 9, math.MaxInt, -1 << 31, 1 << 31} {
			if n, end, e := wire.Number(b, at); n != 0 || end != 0 || e != api.ErrArg {
				t.Errorf("Number of %d bytes at %d: %d, %d, %v", len(b), at, n, end, e)
			}
		}
	}
	for _, b := range [][]byte{nil, {}, make([]byte, 0, 8)} {
		if n, end, e := wire.Number(b, 0); n != 0 || end != 0 || e != api.ErrCut {
			t.Errorf("Number of no bytes: %d, %d, %v", n, end, e)
		}
		checkNumber(t, b, 1)
		checkNumber(t, b, -1)
	}
}

// Bytes behind the end of a list, in its room, are none of its.
func TestNumberDoesNotReadTheRoom(t *testing.T) {
	room := un("ffffff01")
	for n := range 4 {
		if got, end, e := wire.Number(room[:n], 0); got != 0 || end != 0 || e != api.ErrCut {
			t.Errorf("Number of %d bytes of %x: %d, %d, %v", n, room, got, end, e)
		}
	}
}

// Each count of bytes that go on, with each byte behind them, or none.
func TestNumberOfEachLength(t *testing.T) {
	for _, lead := range []byte{0x80, 0x81, 0xaa, 0xff} {
		for count := range 13 {
			b := bytes.Repeat([]byte{lead}, count)
			checkNumber(t, b, 0)
			for last := range 256 {
				one := append(slices.Clone(b), byte(last))
				checkNumber(t, one, 0)
				checkNumber(t, append(one, 0), 0)
				checkNumber(t, append(one, 1, 0x80), 0)
				checkNumber(t, slices.Concat([]byte{7}, one), 1)
			}
		}
	}
}

// The tenth byte: 1 alone may stand there, whatever follows.
func TestTheTenthByte(t *testing.T) {
	nine := bytes.Repeat([]byte{0x80}, 9)
	for tenth := range 256 {
		for _, behind := range [][]byte{nil, {0}, {1}, {0xff}} {
			b := slices.Concat(nine, []byte{byte(tenth)}, behind)
			n, end, e := wire.Number(b, 0)
			if tenth == 1 && (n != 1<<63 || end != 10 || e != api.OK) {
				t.Errorf("Number(%x): %d, %d, %v", b, n, end, e)
			}
			if tenth != 1 && (n != 0 || end != 0 || e != api.ErrNumber) {
				t.Errorf("Number(%x): %d, %d, %v", b, n, end, e)
			}
		}
	}
}

func TestNumbersLongerThanNeedBe(t *testing.T) {
	r := rand.New(rand.NewSource(203))
	for _, n := range manyNumbers(r) {
		b := formByWords(n)
		for len(b) < 12 {
			b[len(b)-1] += 128
			b = append(b, 0)
			if got, end, e := wire.Number(b, 0); got != 0 || end != 0 || e != api.ErrNumber {
				t.Errorf("Number(%x): %d, %d, %v", b, got, end, e)
			}
		}
	}
}

func TestNumberOfDrawnBytes(t *testing.T) {
	r := rand.New(rand.NewSource(204))
	for range 20000 {
		b := drawn(r, r.Intn(14))
		for i := range b { // mostly such as go on
			if r.Intn(4) > 0 {
				b[i] |= 0x80
			}
		}
		checkNumber(t, b, r.Intn(len(b)+1))
	}
}

// P7.7

func TestWhatIsPutIsRead(t *testing.T) {
	r := rand.New(rand.NewSource(205))
	for _, n := range manyNumbers(r) {
		for _, b := range [][]byte{nil, {0xff}, drawn(r, r.Intn(20))} {
			all := wire.Put(b, n)
			if len(all)-len(b) != wire.Size(n) {
				t.Errorf("Put adds %d bytes for %d, Size says %d", len(all)-len(b), n, wire.Size(n))
			}
			if got, end, e := wire.Number(all, len(b)); got != n || end != len(all) || e != api.OK {
				t.Errorf("Number(%x, %d): %d, %d, %v, not %d", all, len(b), got, end, e, n)
			}
			more := slices.Concat(all, drawn(r, 3))
			if got, end, e := wire.Number(more, len(b)); got != n || end != len(all) || e != api.OK {
				t.Errorf("Number(%x, %d): %d, %d, %v, not %d", more, len(b), got, end, e, n)
			}
		}
	}
}

func TestWhatIsReadIsPut(t *testing.T) {
	r := rand.New(rand.NewSource(206))
	taken := 0
	for range 30000 {
		b := drawn(r, 1+r.Intn(14))
		for i := range r.Intn(len(b)) {
			b[i] |= 0x80
		}
		at := r.Intn(len(b))
		n, end, e := wire.Number(b, at)
		if e != api.OK {
			continue
		}
		taken++
		if got := wire.Put(b[:at], n); !bytes.Equal(got, b[:end]) || wire.Size(n) != end-at {
			t.Errorf("Number(%x, %d) takes %d up to %d, Put makes %x of it", b, at, n, end, got)
		}
	}
	if taken < 1000 {
		t.Errorf("only %d numbers were taken", taken)
	}
}

// Cut anywhere a number is none, so no form is the beginning of another.
func TestNoFormBeginsAnother(t *testing.T) {
	r := rand.New(rand.NewSource(207))
	for _, n := range manyNumbers(r) {
		b := wire.Put(nil, n)
		for cut := range b {
			if got, end, e := wire.Number(b[:cut], 0); got != 0 || end != 0 || e != api.ErrCut {
				t.Errorf("Number(%x): %d, %d, %v", b[:cut], got, end, e)
			}
		}
	}
	few := edgeNumbers()
	for _, n := range few {
		for _, m := range few {
			if a, b := wire.Put(nil, n), wire.Put(nil, m); n != m && bytes.HasPrefix(b, a) {
				t.Errorf("%x of %d begins %x of %d", a, n, b, m)
			}
		}
	}
}
