package chain_test

import (
	"slices"
	"sync"
	"testing"

	"pawl/api"
	"pawl/chain"
)

// What is given is new memory, room too; two chains know nothing of one another.

// fill overwrites a list, room too.
func fill(keys []api.Key) {
	keys = keys[:cap(keys)]
	for i := range keys {
		keys[i] = api.Key{0xa5, 1, 2}
	}
}

func TestMemoryOfSkip(t *testing.T) {
	d := newDrawer(550)
	for count := range 40 {
		c, w := both(d.key(), uint32(d.Intn(1000)))
		twin := chain.New(w.key, uint32(w.n))
		to := uint32(w.n) + uint32(count)
		want, _ := w.skip(to, count)
		one, _ := c.Skip(to, count)
		other, _ := twin.Skip(to, count)
		fill(one)
		checkStand(t, "behind an answer that was overwritten", c, w)
		if !slices.Equal(other, want) {
			t.Fatalf("%d keys change with those of another chain", count)
		}
		later, _ := c.Skip(to+uint32(count), count)
		wantLater, _ := w.skip(to+uint32(count), count)
		fill(other)
		if !slices.Equal(later, wantLater) {
			t.Fatalf("%d later keys change with the elder ones", count)
		}
		checkAhead(t, c, w, 5)
		fill(later)
		checkNext(t, c, w)
	}
}

// An answer of no keys has no room that others have.
func TestMemoryOfNone(t *testing.T) {
	c, w := both(newDrawer(551).key(), 5)
	one, _ := c.Skip(5, 0)
	other, _ := c.Skip(5, 0)
	one, other = append(one, api.Key{1}), append(other, api.Key{2})
	if one[0] != (api.Key{1}) || other[0] != (api.Key{2}) {
		t.Error("two answers share their room")
	}
	checkNext(t, c, w)
}

// Keys that were handed in, or given, may change: they are values.
func TestMemoryOfKeys(t *testing.T) {
	d := newDrawer(552)
	key := d.key()
	was := key
	c, w := both(key, 1)
	key[0]++
	checkStand(t, "behind a change of the key that was handed in", c, w)
	given := c.Key()
	given[31]++
	checkStand(t, "behind a change of the key that was given", c, w)
	root, secret := was, d.key()
	wasSecret := secret
	chain.Step(root)
	chain.Message(root)
	chain.Root(root, secret)
	if root != was || secret != wasSecret {
		t.Error("what was handed in has changed")
	}
}

// Whatever one of two goes through, the other one stands where it stood, though they began alike.
func TestTwoChains(t *testing.T) {
	d := newDrawer(553)
	for range 50 {
		key, n := d.key(), d.number()
		a, wa := both(key, n)
		b, wb := both(key, n)
		for range 30 {
			c, w := a, wa
			if d.Intn(2) == 0 {
				c, w = b, wb
			}
			switch d.Intn(3) {
			case 0:
				checkNext(t, c, w)
			case 1:
				to := min(w.n+uint64(d.Intn(6)), mostCount)
				checkSkip(t, c, w, uint32(to), d.Intn(6)-1)
			case 2:
				for number, got := range c.Ahead(3) {
					checkNext(t, a, wa)
					checkStand(t, "the other chain", b, wb)
					if number < n || got == (api.Key{}) {
						t.Fatalf("%d, %x", number, got)
					}
				}
			}
			checkStand(t, "one chain", a, wa)
			checkStand(t, "the other chain", b, wb)
		}
	}
}

// From arguments alone: whatever goes on beside it.
func TestAtOnce(t *testing.T) {
	var all sync.WaitGroup
	for i := range 8 {
		all.Go(func() {
			d := newDrawer(int64(560 + i))
			for range 100 {
				key, n := d.key(), uint32(d.Intn(1000))
				c, w := chain.New(key, n), chainByWords{key, uint64(n)}
				want := w.ahead(9)
				told := gone(c.Ahead(9))
				skipped, e := c.Skip(n+8, 8)
				last, lastE := c.Next()
				next, message := chain.Step(key)
				if e != api.OK || lastE != api.OK || !slices.Equal(told, want) || last != want[8].key || skipped[3] != want[3].key {
					t.Errorf("at %d: %v, %v", n, e, lastE)
					return
				}
				if message != want[0].key || next != hmacByWords(key, 2) {
					t.Errorf("Step(%x): %x, %x", key, next, message)
				}
			}
		})
	}
	all.Wait()
}
