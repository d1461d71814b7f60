package wire_test

import (
	"bytes"
	"math/rand"
	"slices"
	"testing"

	"pawl/api"
	"pawl/wire"
)

func drawnItems(r *rand.Rand, count int) [][]byte {
	var out [][]byte
	for range count {
		out = append(out, drawn(r, r.Intn(1+r.Intn(300))))
	}
	return out
}

func checkJoinRefuses(t *testing.T, items [][]byte) {
	t.Helper()
	if b, e := wire.Join(items); b != nil || e != api.ErrLong {
		t.Errorf("Join of %d items: %d bytes, %v", len(items), len(b), e)
	}
}

// P7.6

// Example 5.
func TestListExamples(t *testing.T) {
	for _, empty := range [][]byte{nil, {}} {
		if b := joined(t, [][]byte{[]byte("a"), empty, []byte("bc")}); !bytes.Equal(b, un("016100026263")) {
			t.Errorf("Join: %x", b)
		}
	}
	for _, c := range []struct {
		b     string
		items int
		at    int
		e     api.Errno
	}{
		{"0261", 0, 0, api.ErrCut},
		{"", 0, 0, api.OK},
		{"0000", 2, 0, api.OK},
		{"016100026263", 3, 0, api.OK},
	} {
		if items, at, e := wire.Split(un(c.b)); len(items) != c.items || at != c.at || e != c.e {
			t.Errorf("Split(%s): %q, %d, %v", c.b, items, at, e)
		}
		checkSplit(t, un(c.b))
	}
	checkSplit(t, nil)
}

func TestJoinOfDrawnItems(t *testing.T) {
	r := rand.New(rand.NewSource(231))
	for count := range 200 {
		items := drawnItems(r, count)
		if b, want := joined(t, items), joinByWords(items); !bytes.Equal(b, want) {
			t.Errorf("Join of %d items: %.60x, not %.60x", count, b, want)
		}
	}
	for _, none := range [][][]byte{nil, {}} {
		if b := joined(t, none); len(b) != 0 {
			t.Errorf("Join of no items: %x", b)
		}
	}
	for _, n := range []int{0, 1, 127, 128, 16383, 16384, 1<<21 - 1, 1 << 21} {
		items := [][]byte{drawn(r, n)}
		if b, want := joined(t, items), joinByWords(items); !bytes.Equal(b, want) {
			t.Errorf("Join of an item of %d bytes: %.60x, not %.60x", n, b, want)
		}
	}
}

func TestMostItems(t *testing.T) {
	r := rand.New(rand.NewSource(232))
	for _, items := range [][][]byte{make([][]byte, mostItems+1), drawnItems(r, mostItems+1)} {
		b := joined(t, items[:mostItems])
		if !bytes.Equal(b, joinByWords(items[:mostItems])) {
			t.Error("Join of as many items as may be: other bytes than the words'")
		}
		checkSplit(t, b)
		checkJoinRefuses(t, items)
		long := joinByWords(items)
		if got, at, e := wire.Split(long); got != nil || at != len(b) || e != api.ErrLong {
			t.Errorf("Split of %d items: %d of them, %d, %v", len(items), len(got), at, e)
		}
	}
	checkJoinRefuses(t, make([][]byte, 10*mostItems))
}

// Behind MaxItems items ErrLong comes ahead of whatever else is wrong there.
func TestSplitBehindTheLastItem(t *testing.T) {
	b := make([]byte, mostItems)
	for _, more := range []string{"00", "80", "8000", "05", "ffffffffffffffffffff", "0161"} {
		all := slices.Concat(b, un(more))
		if items, at, e := wire.Split(all); items != nil || at != mostItems || e != api.ErrLong {
			t.Errorf("Split of %s behind %d items: %d, %v", more, mostItems, at, e)
		}
		fewer := all[1:]
		checkSplit(t, fewer)
	}
}

func TestMostBytesOfAList(t *testing.T) {
	r := rand.New(rand.NewSource(233))
	one := [][]byte{drawn(r, mostBytes-4)} // behind four bytes for the count
	b := joined(t, one)
	if len(b) != mostBytes || !bytes.Equal(b, joinByWords(one)) {
		t.Errorf("Join: %d bytes", len(b))
	}
	checkSplit(t, b)
	one[0] = append(one[0], 0)
	checkJoinRefuses(t, one)
	checkSplit(t, joinByWords(one))
	// All items count together.
	two := [][]byte{make([]byte, 1<<21), make([]byte, 1<<21-7)} // behind four and three bytes
	if b := joined(t, two); len(b) != mostBytes {
		t.Errorf("Join of two: %d bytes", len(b))
	}
	checkJoinRefuses(t, append(two, nil))
	checkJoinRefuses(t, append([][]byte{nil}, two...))
	two[1] = make([]byte, 1<<21-6)
	checkJoinRefuses(t, two)
	// One great list, handed in many times.
	many := slices.Repeat([][]byte{make([]byte, 1<<20)}, mostItems)
	checkJoinRefuses(t, many)
	if b := joined(t, many[:3]); !bytes.Equal(b, joinByWords(many[:3])) {
		t.Error("Join of one item three times: other bytes than the words'")
	}
}

func TestSplitOfTooManyBytes(t *testing.T) {
	for _, n := range []int{mostBytes + 1, mostBytes + 2, 2 * mostBytes} {
		if items, at, e := wire.Split(make([]byte, n)); items != nil || at != 0 || e != api.ErrLong {
			t.Errorf("Split of %d bytes: %d items, %d, %v", n, len(items), at, e)
		}
	}
	if items, at, e := wire.Split(make([]byte, mostBytes)); items != nil || at != mostItems || e != api.ErrLong {
		t.Errorf("Split of %d bytes 0: %d items, %d, %v", mostBytes, len(items), at, e)
	}
}

func TestSplitErrorsAtTheirPlaces(t *testing.T) {
	for _, c := range []struct {
		b  string
		at int
		e  api.Errno
	}{
		{"80", 0, api.ErrCut},
		{"8000", 0, api.ErrNumber},
		{"01", 0, api.ErrCut},
		{"016180", 2, api.ErrCut},
		{"01618000", 2, api.ErrNumber},
		{"016101", 2, api.ErrCut},
		{"01610361", 2, api.ErrCut},
		{"0003616200", 1, api.OK},
		{"00036162", 1, api.ErrCut},
		{"00ffffffffffffffffff01", 1, api.ErrCut},
		{"0080808080808080808001", 1, api.ErrCut},
		{"0080808080808080808002", 1, api.ErrNumber},
		{"0080808080808080808081", 1, api.ErrNumber},
		{"008080808010", 1, api.ErrCut},
		{"00818080801061", 1, api.ErrCut},
		{"00ffffffffffffffff7f", 1, api.ErrCut},
	} {
		items, at, e := wire.Split(un(c.b))
		if e != c.e || e != api.OK && (items != nil || at != c.at) || e == api.OK && at != 0 {
			t.Errorf("Split(%s): %q, %d, %v, not %d, %v", c.b, items, at, e, c.at, c.e)
		}
		checkSplit(t, un(c.b))
	}
}

func TestSplitOfDrawnBytes(t *testing.T) {
	r := rand.New(rand.NewSource(234))
	for range 30000 {
		b := drawn(r, r.Intn(20))
		for i := range b {
			if r.Intn(3) > 0 {
				b[i] %= 8
			}
		}
		checkSplit(t, b)
	}
	for x := range 256 {
		for y := range 256 {
			checkSplit(t, []byte{byte(x), byte(y)})
		}
	}
}

// P7.9

func TestWhatIsJoinedIsSplit(t *testing.T) {
	r := rand.New(rand.NewSource(235))
	for i := range 600 {
		items := drawnItems(r, i%40)
		got, at, e := wire.Split(joined(t, items))
		if !slices.EqualFunc(got, items, bytes.Equal) || at != 0 || e != api.OK {
			t.Errorf("Split(Join(%.60x)): %.60x, %d, %v", items, got, at, e)
		}
	}
}

func TestWhatIsSplitIsJoined(t *testing.T) {
	r := rand.New(rand.NewSource(236))
	taken := 0
	for range 40000 {
		b := drawn(r, r.Intn(10))
		for i := range b {
			b[i] %= 5
		}
		items, _, e := wire.Split(b)
		if e != api.OK {
			continue
		}
		taken++
		if got := joined(t, items); !bytes.Equal(got, b) {
			t.Errorf("Join(Split(%x)): %x", b, got)
		}
	}
	if taken < 1000 {
		t.Errorf("only %d lists were taken", taken)
	}
}

func TestTwoListsEndToEnd(t *testing.T) {
	r := rand.New(rand.NewSource(237))
	for range 300 {
		one, other := drawnItems(r, r.Intn(12)), drawnItems(r, r.Intn(12))
		both := slices.Concat(joined(t, one), joined(t, other))
		all := slices.Concat(one, other)
		if b := joined(t, all); !bytes.Equal(b, both) {
			t.Errorf("Join of all: %.60x, not %.60x", b, both)
		}
		if items, at, e := wire.Split(both); !slices.EqualFunc(items, all, bytes.Equal) || at != 0 || e != api.OK {
			t.Errorf("Split of two lists: %.60x, %d, %v", items, at, e)
		}
	}
	half := joined(t, make([][]byte, mostItems/2))
	if items, _, e := wire.Split(slices.Concat(half, half)); len(items) != mostItems || e != api.OK {
		t.Errorf("two halves: %d items, %v", len(items), e)
	}
	if items, at, e := wire.Split(slices.Concat(half, half, []byte{0})); items != nil || at != mostItems || e != api.ErrLong {
		t.Errorf("two halves and one more: %d items, %d, %v", len(items), at, e)
	}
}
