package chain_test

import (
	"iter"
	"math"
	"slices"
	"testing"

	"pawl/api"
	"pawl/chain"
)

// P11.7

func TestAhead(t *testing.T) {
	d := newDrawer(530)
	for _, n := range numbers {
		for _, count := range []int{0, 1, 2, 3, 4, 19, 20, 21, 50} {
			c, w := both(d.key(), n)
			checkAhead(t, c, w, count)
			checkNext(t, c, w)
			checkAhead(t, c, w, count)
		}
	}
}

func TestAheadOfNone(t *testing.T) {
	d := newDrawer(531)
	for _, n := range numbers {
		c, w := both(d.key(), n)
		for _, count := range append([]int{0}, below...) {
			for number, key := range c.Ahead(count) {
				t.Fatalf("Ahead(%d) at %d: %d, %x", count, n, number, key)
			}
		}
		checkStand(t, "behind Ahead", c, w)
	}
}

func TestAheadOfMany(t *testing.T) {
	d := newDrawer(532)
	for _, n := range []uint32{0, 77, 1<<31 - 2500, mostCount - 5001, mostCount - 5000, mostCount - 4999} {
		c, w := both(d.key(), n)
		checkAhead(t, c, w, 5000)
	}
}

// Not beyond the number MaxCount - 1, however many are asked for.
func TestAheadOfTheEnd(t *testing.T) {
	d := newDrawer(533)
	for left := range 30 {
		n := uint32(mostCount - left)
		for _, count := range append([]int{left - 1, left, left + 1, left + 2, 100, math.MaxInt32, 1 << 31, mostCount}, above...) {
			c, w := both(d.key(), n)
			got := gone(c.Ahead(count))
			if want := min(max(count, 0), left); len(got) != want || !slices.Equal(got, w.ahead(want)) {
				t.Fatalf("Ahead(%d) at %d: %d of them, not %d", count, n, len(got), want)
			}
			for _, m := range got {
				if m.n == mostCount {
					t.Fatalf("Ahead(%d) at %d goes to the end itself", count, n)
				}
			}
			checkStand(t, "behind Ahead", c, w)
		}
	}
}

// More than anybody could go through are given one by one.
func TestAheadOfMoreThanCan(t *testing.T) {
	d := newDrawer(534)
	for _, n := range []uint32{0, 5, 1 << 31, mostCount - 100} {
		for _, count := range append([]int{math.MaxInt32, 1 << 31, mostCount - 1, mostCount}, above...) {
			c, w := both(d.key(), n)
			var got []item
			for number, key := range c.Ahead(count) {
				got = append(got, item{number, key})
				if len(got) == 10 {
					break
				}
			}
			if !slices.Equal(got, w.ahead(10)) {
				t.Fatalf("Ahead(%d) at %d begins with %v", count, n, got)
			}
			checkStand(t, "behind Ahead", c, w)
		}
	}
}

// Whoever says that it is enough is asked no more.
func TestAheadStoppedAtEachPlace(t *testing.T) {
	d := newDrawer(535)
	for _, n := range []uint32{0, 1000, mostCount - 12, mostCount - 5} {
		for _, count := range []int{1, 2, 8, 20} {
			c, w := both(d.key(), n)
			want := w.ahead(count)
			seq := c.Ahead(count)
			for stop := range want {
				var got []item
				seq(func(number uint32, key api.Key) bool {
					got = append(got, item{number, key})
					return len(got) <= stop
				})
				if !slices.Equal(got, want[:stop+1]) {
					t.Fatalf("Ahead(%d) at %d, stopped at %d: %d of them", count, n, stop, len(got))
				}
				checkStand(t, "behind a going that was stopped", c, w)
			}
			if got := gone(seq); !slices.Equal(got, want) {
				t.Fatalf("Ahead(%d) at %d, gone through again: %v", count, n, got)
			}
		}
	}
}

// What a going gives is of the chain as it stands when that going begins, not when Ahead was asked.
func TestAheadBeginsWithTheGoing(t *testing.T) {
	d := newDrawer(536)
	for _, n := range []uint32{0, 41, mostCount - 20, mostCount - 6} {
		c, w := both(d.key(), n)
		seq := c.Ahead(8)
		for range 9 {
			for range 2 {
				if got, want := gone(seq), w.ahead(8); !slices.Equal(got, want) {
					t.Fatalf("at %d: %v, not %v", w.n, got, want)
				}
			}
			if d.Intn(2) == 0 {
				checkNext(t, c, w)
				continue
			}
			to := min(w.n+3, mostCount)
			checkSkip(t, c, w, uint32(to), 3)
		}
	}
}

// Steps of the chain in the midst change nothing of what is given, and go as they go without.
func TestAheadWithStepsInTheMidst(t *testing.T) {
	d := newDrawer(537)
	for _, n := range []uint32{0, 300, mostCount - 30, mostCount - 10, mostCount - 7, mostCount - 1} {
		for at := range 10 {
			c, w := both(d.key(), n)
			want := w.ahead(10)
			var got []item
			for number, key := range c.Ahead(10) {
				if len(got) >= at {
					checkNext(t, c, w)
					to := min(w.n+uint64(d.Intn(4)), mostCount)
					checkSkip(t, c, w, uint32(to), 3)
				}
				got = append(got, item{number, key})
			}
			if !slices.Equal(got, want) {
				t.Fatalf("at %d with steps from %d on: %v, not %v", n, at, got, want)
			}
			checkAhead(t, c, w, 10)
		}
	}
}

// Goings within one another, of one Ahead and of another, each from where the chain stood.
func TestAheadWithinAhead(t *testing.T) {
	c, w := both(newDrawer(538).key(), 7)
	seq := c.Ahead(5)
	want := w.ahead(5)
	var got []item
	for number, key := range seq {
		if inner := gone(seq); !slices.Equal(inner, w.ahead(5)) {
			t.Fatalf("within: %v", inner)
		}
		checkAhead(t, c, w, 3)
		checkNext(t, c, w)
		got = append(got, item{number, key})
	}
	if !slices.Equal(got, want) {
		t.Fatalf("%v, not %v", got, want)
	}
}

// Two that are drawn by turns do not touch one another, nor the chain.
func TestAheadPulled(t *testing.T) {
	c, w := both(newDrawer(539).key(), mostCount-9)
	seq := c.Ahead(6)
	first := w.ahead(6)
	next, stop := iter.Pull2(seq)
	defer stop()
	checkPulled(t, next, first[0])
	checkNext(t, c, w)
	checkNext(t, c, w)
	second := w.ahead(6)
	other, stopOther := iter.Pull2(seq)
	defer stopOther()
	for i := range 5 {
		checkPulled(t, other, second[i])
		checkPulled(t, next, first[i+1])
		checkNext(t, c, w)
	}
	checkPulled(t, other, second[5])
	for _, pull := range []func() (uint32, api.Key, bool){next, other} {
		if n, key, ok := pull(); ok || n != 0 || key != (api.Key{}) {
			t.Errorf("one too many: %d, %x", n, key)
		}
	}
}

func checkPulled(t *testing.T, pull func() (uint32, api.Key, bool), want item) {
	t.Helper()
	if n, key, ok := pull(); !ok || n != want.n || key != want.key {
		t.Fatalf("%d, %x, %v, not %d, %x", n, key, ok, want.n, want.key)
	}
}

// Whoever panics in the midst leaves the chain as it was.
func TestAheadLeftByPanic(t *testing.T) {
	c, w := both(newDrawer(540).key(), 3)
	seq := c.Ahead(5)
	func() {
		defer func() {
			if recover() == nil {
				t.Error("the panic was swallowed")
			}
		}()
		for range seq {
			panic("enough")
		}
	}()
	checkStand(t, "behind a panic", c, w)
	if got := gone(seq); !slices.Equal(got, w.ahead(5)) {
		t.Errorf("behind a panic: %v", got)
	}
}

// P11.8

func TestSkipIsSoManyNext(t *testing.T) {
	d := newDrawer(541)
	for range 300 {
		key, count := d.key(), d.Intn(40)
		n := min(d.number(), mostCount-uint32(count))
		skips, steps := chain.New(key, n), chain.New(key, n)
		told := gone(steps.Ahead(count + 1))
		got, e := skips.Skip(n+uint32(count), count+d.Intn(3))
		if e != api.OK || len(got) != count {
			t.Fatalf("Skip over %d at %d: %d keys, %v", count, n, len(got), e)
		}
		last, lastE := skips.Next()
		if lastE == api.OK {
			got = append(got, last)
		}
		if len(got) != len(told) {
			t.Fatalf("%d keys at %d, and Ahead has %d", len(got), n, len(told))
		}
		for i, want := range got {
			if key, e := steps.Next(); key != want || e != api.OK || told[i] != (item{n + uint32(i), want}) {
				t.Fatalf("key %d at %d: %x by Next, %v by Ahead, %x by Skip", i, n, key, told[i], want)
			}
		}
		if skips.N() != steps.N() || skips.Key() != steps.Key() {
			t.Fatalf("one stands at %d, the other at %d", skips.N(), steps.N())
		}
	}
}

// However a way is cut into Skips, it gives the same keys and ends at the same place.
func TestSkipsOneBehindTheOther(t *testing.T) {
	d := newDrawer(542)
	for range 100 {
		key, n := d.key(), min(d.number(), mostCount-200)
		whole, cut := chain.New(key, n), chain.New(key, n)
		want, _ := whole.Skip(n+200, 200)
		var got []api.Key
		for len(got) < 200 {
			piece := d.Intn(min(200-len(got), 40) + 1)
			more, e := cut.Skip(cut.N()+uint32(piece), piece)
			if e != api.OK {
				t.Fatal(e)
			}
			got = append(got, more...)
		}
		if !slices.Equal(got, want) || cut.N() != whole.N() || cut.Key() != whole.Key() {
			t.Fatalf("cut to pieces from %d: %d keys, it stands at %d", n, len(got), cut.N())
		}
	}
}

// P11.9

func TestGoesOnFromKeyAndNumber(t *testing.T) {
	d := newDrawer(543)
	for range 200 {
		c, w := both(d.key(), d.number())
		for range 20 {
			checkNext(t, c, w)
			again := chain.New(c.Key(), c.N())
			if got, want := gone(again.Ahead(4)), w.ahead(4); !slices.Equal(got, want) {
				t.Fatalf("taken up again at %d: %v, not %v", c.N(), got, want)
			}
			if d.Intn(3) == 0 {
				c = again
			}
		}
	}
}

// The key of a message hangs on how far it is from the beginning; where the numbers begin is not in it.
func TestNumbersAreNotInTheKeys(t *testing.T) {
	d := newDrawer(544)
	for range 50 {
		key := d.key()
		want, _ := chain.New(key, 0).Skip(10, 10)
		for _, n := range numbers {
			if n > mostCount-10 {
				continue
			}
			if got, e := chain.New(key, n).Skip(n+10, 10); e != api.OK || !slices.Equal(got, want) {
				t.Fatalf("from %d on: other keys than from 0 on, %v", n, e)
			}
		}
	}
}

// No key of a chain comes twice, and none leads back.
func TestKeysOfAChainAreApart(t *testing.T) {
	c := chain.New(newDrawer(545).key(), 0)
	seen := map[api.Key]int{}
	for i := range 3000 {
		seen[c.Key()]++
		key, _ := c.Next()
		seen[key]++
		if len(seen) != 2*i+2 {
			t.Fatalf("a key comes twice at %d", i)
		}
	}
}
