package chain_test

import (
	"math"
	"testing"

	"pawl/api"
	"pawl/chain"
)

// The chapter's examples.

func TestExampleOne(t *testing.T) {
	k := newDrawer(510).key()
	c := chain.New(k, 0)
	if c.N() != 0 || c.Key() != k {
		t.Fatalf("New(k, 0): %d, %x", c.N(), c.Key())
	}
	next, message := chain.Step(k)
	if got, e := c.Next(); got != message || e != api.OK || c.N() != 1 || c.Key() != next {
		t.Fatalf("Next: %x, %v; then %d, %x", got, e, c.N(), c.Key())
	}
	for _, x := range []struct {
		to    uint32
		most  int
		count int
		want  api.Errno
		n     uint32
	}{
		{1, 0, 0, api.OK, 1},
		{0, 5, 0, api.ErrArg, 1},
		{3, 1, 0, api.ErrSkip, 1},
		{3, 2, 2, api.OK, 3},
	} {
		if got, e := c.Skip(x.to, x.most); len(got) != x.count || e != x.want || c.N() != x.n {
			t.Fatalf("Skip(%d, %d): %d keys, %v; then %d", x.to, x.most, len(got), e, c.N())
		}
	}
}

func TestExampleTwo(t *testing.T) {
	k := newDrawer(511).key()
	c := chain.New(k, api.MaxCount)
	if got, e := c.Next(); got != (api.Key{}) || e != api.ErrExhausted {
		t.Fatalf("Next at MaxCount: %x, %v", got, e)
	}
	if got, e := c.Skip(api.MaxCount, 0); len(got) != 0 || e != api.OK {
		t.Fatalf("Skip(MaxCount, 0) at MaxCount: %x, %v", got, e)
	}
	if got, e := c.Skip(api.MaxCount, -1); len(got) != 0 || e != api.ErrSkip {
		t.Fatalf("Skip(MaxCount, -1) at MaxCount: %x, %v", got, e)
	}
	if got := gone(c.Ahead(5)); len(got) != 0 || c.N() != api.MaxCount || c.Key() != k {
		t.Fatalf("Ahead(5) at MaxCount: %v; then %d", got, c.N())
	}
	c = chain.New(k, api.MaxCount-1)
	if got := gone(c.Ahead(5)); len(got) != 1 {
		t.Fatalf("Ahead(5) at MaxCount - 1: %v", got)
	}
	if got, e := c.Next(); e != api.OK || c.N() != api.MaxCount {
		t.Fatalf("Next at MaxCount - 1: %x, %v; then %d", got, e, c.N())
	}
}

// P11.4

func TestNew(t *testing.T) {
	d := newDrawer(512)
	for _, n := range numbers {
		for _, key := range []api.Key{{}, d.key(), d.key()} {
			c, w := both(key, n)
			checkStand(t, "New", c, w)
			checkStand(t, "asked again", c, w)
		}
	}
	for range 1000 {
		c, w := both(d.key(), d.Uint32())
		checkStand(t, "New", c, w)
	}
}

// P11.5

func TestNext(t *testing.T) {
	d := newDrawer(513)
	for _, n := range numbers {
		c, w := both(d.key(), n)
		for range 5 {
			checkNext(t, c, w)
		}
	}
	for range 1000 {
		c, w := both(d.key(), d.number())
		checkNext(t, c, w)
		checkNext(t, c, w)
	}
}

func TestNextManyTimes(t *testing.T) {
	c, w := both(newDrawer(514).key(), 0)
	for range 5000 {
		checkNext(t, c, w)
	}
	if c.N() != 5000 {
		t.Errorf("it stands at %d", c.N())
	}
}

// At its end, Next gives the zero key and changes nothing, however often it is asked.
func TestNextAtTheEnd(t *testing.T) {
	d := newDrawer(515)
	for range 50 {
		key := d.key()
		c := chain.New(key, mostCount)
		for range 4 {
			if got, e := c.Next(); got != (api.Key{}) || e != api.ErrExhausted || c.N() != mostCount || c.Key() != key {
				t.Fatalf("Next at the end: %x, %v; then %d, %x", got, e, c.N(), c.Key())
			}
		}
		c = chain.New(key, mostCount-1)
		next, message := chain.Step(key)
		if got, e := c.Next(); got != message || e != api.OK || c.N() != mostCount || c.Key() != next {
			t.Fatalf("Next one ahead of the end: %x, %v; then %d, %x", got, e, c.N(), c.Key())
		}
		if got, e := c.Next(); got != (api.Key{}) || e != api.ErrExhausted || c.Key() != next {
			t.Fatalf("Next at the end: %x, %v; then %x", got, e, c.Key())
		}
	}
}

// P11.6

// bounds are those of a Skip over so many: far too few, just too few, just enough, more.
func bounds(count uint32) []int {
	c := int(count)
	all := append([]int{0, 1, 2, c - 2, c - 1, c, c + 1, c + 2, 1000, math.MaxInt32, 1 << 31, mostCount}, below...)
	return append(all, above...)
}

func TestSkip(t *testing.T) {
	d := newDrawer(516)
	for _, n := range numbers {
		for _, count := range []uint32{0, 1, 2, 3, 7, 20} {
			if mostCount-n < count {
				continue
			}
			for _, most := range bounds(count) {
				c, w := both(d.key(), n)
				checkSkip(t, c, w, n+count, most)
				checkNext(t, c, w)
			}
		}
	}
}

func TestSkipBack(t *testing.T) {
	d := newDrawer(517)
	for _, n := range numbers {
		for _, to := range append(numbers, n-1, n-2, n-3, n/2) {
			if to >= n {
				continue
			}
			c, w := both(d.key(), n)
			for _, most := range bounds(n - to) {
				if got, e := c.Skip(to, most); got != nil || e != api.ErrArg {
					t.Fatalf("Skip(%d, %d) at %d: %d keys, %v", to, most, n, len(got), e)
				}
				checkStand(t, "behind a Skip back", c, w)
			}
			checkNext(t, c, w)
		}
	}
}

// However far it is, with too small a bound nothing is gone over.
func TestSkipTooFar(t *testing.T) {
	d := newDrawer(518)
	for _, n := range numbers {
		for _, to := range append(numbers, n) {
			if to < n {
				continue
			}
			c, w := both(d.key(), n)
			count := int(to - n)
			for _, most := range append([]int{count - 1, count - 2, count - 1000, count / 2, 0, 1}, below...) {
				if most >= count {
					continue
				}
				if got, e := c.Skip(to, most); got != nil || e != api.ErrSkip {
					t.Fatalf("Skip(%d, %d) at %d: %d keys, %v", to, most, n, len(got), e)
				}
				checkStand(t, "behind a Skip too far", c, w)
			}
			checkNext(t, c, w)
		}
	}
}

// Below 0 a bound lets nothing by, not even the number where the chain stands; back comes ahead of it.
func TestSkipBelowZero(t *testing.T) {
	for _, n := range numbers {
		for _, most := range below {
			c, w := both(api.Key{9}, n)
			if got, e := c.Skip(n, most); got != nil || e != api.ErrSkip {
				t.Fatalf("Skip(%d, %d): %d keys, %v", n, most, len(got), e)
			}
			if got, e := c.Skip(n-1, most); n > 0 && (got != nil || e != api.ErrArg) {
				t.Fatalf("Skip(%d, %d) at %d: %d keys, %v", n-1, most, n, len(got), e)
			}
			checkStand(t, "behind Skip", c, w)
		}
	}
}

func TestSkipToTheEnd(t *testing.T) {
	d := newDrawer(519)
	for count := range 30 {
		n := uint32(mostCount - count)
		for _, most := range []int{count - 1, count, count + 1} {
			c, w := both(d.key(), n)
			checkSkip(t, c, w, mostCount, most)
			checkSkip(t, c, w, mostCount, 0)
			checkSkip(t, c, w, mostCount-1, 5)
			checkSkip(t, c, w, 0, math.MaxInt)
			checkNext(t, c, w)
		}
	}
}

func TestSkipMany(t *testing.T) {
	d := newDrawer(520)
	for _, count := range []uint32{api.MaxSkip - 1, api.MaxSkip, api.MaxSkip + 1, 5000} {
		for _, n := range []uint32{0, 1, 1 << 31, mostCount - count - 1, mostCount - count} {
			c, w := both(d.key(), n)
			checkSkip(t, c, w, n+count, int(count)-1)
			checkSkip(t, c, w, n+count, int(count))
			checkNext(t, c, w)
		}
	}
}

// Whatever is called, one behind the other.
func TestAnyCalls(t *testing.T) {
	d := newDrawer(521)
	for range 400 {
		c, w := both(d.key(), d.number())
		for range 30 {
			switch d.Intn(5) {
			case 0, 1:
				checkNext(t, c, w)
			case 2:
				checkAhead(t, c, w, d.Intn(12)-3)
			case 3:
				to := min(w.n+uint64(d.Intn(12)), mostCount)
				checkSkip(t, c, w, uint32(to), d.Intn(14)-2)
			case 4:
				to := uint64(d.Uint32())
				most := d.Intn(10) - 2
				if to > w.n {
					most = min(most, int(to-w.n)-1)
				}
				checkSkip(t, c, w, uint32(to), most)
			}
		}
	}
}
