package prekeys_test

import (
	"slices"
	"testing"

	"pawl/api"
)

// P23.5, P23.7 and P23.10: keys for once, laid ready and given out.

func TestStock(t *testing.T) {
	s := of(t, ann.line("ann", 1, 1))
	s.gives("ann", 1, zero, false)
	s.stocks(api.OK, "ann", 1)
	s.stocks(api.OK, "ann", 1, keys(0, 3)...)
	s.stocks(api.OK, "ann", 1)
	s.stocks(api.OK, "ann", 1, keys(3, 1)...)
	s.check("four keys")
	s.gives("ann", 1, onceOf(0), true)
	s.gives("ann", 1, onceOf(1), true)
	s.stocks(api.OK, "ann", 1, onceOf(9), onceOf(8))
	s.check("four again")
	for _, n := range []int{2, 3, 9, 8} {
		s.gives("ann", 1, onceOf(n), true)
	}
	for range 3 {
		s.gives("ann", 1, zero, false)
	}
	s.stocks(api.OK, "ann", 1, onceOf(7))
	s.gives("ann", 1, onceOf(7), true)
	s.check("none")
}

// A key comes once for a device, given out or not; a list with one that came, or one twice, is refused whole.
func TestSpent(t *testing.T) {
	s := of(t, ann.line("ann", 1, 1), ann.line("ann", 2, 1), bob.line("bob", 1, 1))
	s.stocks(api.OK, "ann", 1, keys(0, 10)...)
	s.gives("ann", 1, onceOf(0), true)
	for i := range 10 {
		s.stocks(api.ErrSpent, "ann", 1, onceOf(i))
		for at := range 4 {
			s.stocks(api.ErrSpent, "ann", 1, slices.Insert(keys(20, 3), at, onceOf(i))...)
		}
	}
	for at := range 4 {
		for other := range 4 {
			s.stocks(api.ErrSpent, "ann", 1, slices.Insert(keys(20, 4), at, onceOf(20+other))...)
		}
	}
	s.stocks(api.ErrSpent, "ann", 1, zero, zero)
	s.check("refused")
	s.stocks(api.OK, "ann", 1, keys(20, 4)...) // none of them had come
	s.stocks(api.OK, "ann", 2, keys(0, 10)...) // each device has its own
	s.stocks(api.OK, "bob", 1, keys(0, 10)...)
	s.stocks(api.ErrSpent, "bob", 1, onceOf(3))
	s.gives("ann", 2, onceOf(0), true)
	s.gives("ann", 1, onceOf(1), true)
	s.gives("bob", 1, onceOf(0), true)
	s.check("three devices")
}

// Keys that differ in one bit are two; the zero key is one like the others.
func TestEachBitOfOnces(t *testing.T) {
	s := of(t, ann.line("ann", 1, 1))
	k := api.Key{0x5a, 15: 0xff, 31: 0x81}
	s.stocks(api.OK, "ann", 1, k)
	for bit := range 256 {
		s.stocks(api.OK, "ann", 1, turned(k, bit))
		s.stocks(api.ErrSpent, "ann", 1, turned(k, bit))
		if bit%50 == 49 {
			for ready := 51; ready > 1; ready-- {
				s.fetch("ann", 1)
			}
		}
		s.stocks(api.ErrSpent, "ann", 1, k)
	}
	s.check("each bit")
	s = of(t, ann.line("ann", 1, 1))
	s.stocks(api.OK, "ann", 1, zero)
	s.stocks(api.ErrSpent, "ann", 1, zero)
	s.check("the zero key")
	s.gives("ann", 1, zero, true)
	s.gives("ann", 1, zero, false)
	s.stocks(api.ErrSpent, "ann", 1, zero)
}

// MaxOnces: as many may lie ready, in one list or more; what is given out makes room.
func TestManyOnces(t *testing.T) {
	for _, first := range []int{0, 1, 50, 99, 100} {
		s := of(t, ann.line("ann", 1, 1))
		s.stocks(api.OK, "ann", 1, keys(0, first)...)
		s.stocks(api.ErrLong, "ann", 1, keys(first, mostOnces-first+1)...)
		s.check("refused")
		s.stocks(api.OK, "ann", 1, keys(first, mostOnces-first)...)
		s.stocks(api.OK, "ann", 1)
		s.stocks(api.ErrLong, "ann", 1, onceOf(1000))
		s.stocks(api.ErrSpent, "ann", 1, onceOf(50))
		s.stocks(api.ErrSpent, "ann", 1, append(keys(1000, 200), onceOf(1000))...) // ahead of its length
		s.stocks(api.ErrSpent, "ann", 1, append(keys(1000, 200), onceOf(99))...)
		s.check("full")
		s.gives("ann", 1, onceOf(0), true)
		s.stocks(api.ErrLong, "ann", 1, keys(1000, 2)...)
		s.stocks(api.OK, "ann", 1, onceOf(1000))
		s.stocks(api.ErrLong, "ann", 1, onceOf(1001))
		for i := range 99 {
			s.gives("ann", 1, onceOf(1+i), true)
		}
		s.gives("ann", 1, onceOf(1000), true)
		s.gives("ann", 1, zero, false)
		s.stocks(api.OK, "ann", 1, keys(2000, mostOnces)...)
		s.check("full again")
	}
	s := of(t, ann.line("ann", 1, 1))
	s.stocks(api.ErrLong, "ann", 1, keys(0, 101)...)
	if e := s.d.Stock("ann", 1, keys(0, 1<<18)); e != api.ErrLong {
		t.Errorf("2^18 keys: %v", e)
	}
	if e := s.d.Stock("ann", 1, append(keys(0, 1<<18), onceOf(0))); e != api.ErrSpent {
		t.Errorf("2^18 keys, the first one again: %v", e)
	}
	s.check("nothing came")
}

// MaxLeaves: as many keys may ever come for a device, and each other device has its own count.
func TestAllOncesEver(t *testing.T) {
	s := of(t, ann.line("ann", 1, 1), ann.line("ann", 2, 1))
	given := 0
	give := func(n int) {
		t.Helper()
		for range n {
			if o, e := s.d.Fetch("ann", 1); e != api.OK || o.Once != onceOf(given) || !o.HasOnce {
				t.Fatalf("Fetch %d: %v, %v", given, o.Once, e)
			}
			given++
		}
	}
	stock := func(e api.Errno, l ...api.Key) {
		t.Helper()
		if got := s.d.Stock("ann", 1, l); got != e {
			t.Fatalf("Stock of %d behind %d given: %v, not %v", len(l), given, got, e)
		}
	}
	for given < mostLeaves-136 {
		stock(api.OK, keys(given, 100)...)
		give(100)
	}
	stock(api.OK, keys(given, 100)...)
	give(90)
	came := given + 10 // there is room for more to lie ready than may come
	left := mostLeaves - came
	if left < 10 || left+10 >= mostOnces {
		t.Fatalf("%d are left", left)
	}
	stock(api.ErrLong, keys(came, left+1)...)
	stock(api.ErrSpent, append(keys(came, left), onceOf(12345))...)
	stock(api.OK, keys(came, left-1)...)
	stock(api.ErrLong, keys(came+left-1, 2)...)
	stock(api.ErrSpent, onceOf(came+left-2))
	stock(api.OK, onceOf(mostLeaves-1))
	stock(api.OK)
	stock(api.ErrLong, onceOf(mostLeaves))
	stock(api.ErrSpent, onceOf(mostLeaves), onceOf(0))
	give(left + 10)
	stock(api.ErrLong, onceOf(mostLeaves))
	stock(api.ErrSpent, onceOf(mostLeaves-1))
	if o, e := s.d.Fetch("ann", 1); o.HasOnce || o.Once != zero || e != api.OK || given != mostLeaves {
		t.Errorf("Fetch: %v, %v", o, e)
	}
	s.stocks(api.OK, "ann", 2, keys(0, 100)...)
	s.gives("ann", 2, onceOf(0), true)
	s.check("ever") // of the first device none lies ready, as if none had come
}

// What lies ready stays when a device's listing is renewed, and is told, but neither added to nor given out, when it is gone.
func TestOncesOfListings(t *testing.T) {
	s := of(t, ann.line("ann", 1, 1), ann.line("ann", 2, 1))
	s.stocks(api.OK, "ann", 1, keys(0, 4)...)
	s.enters(ann.line("ann", 1, 2), 2, api.OK)
	s.check("renewed")
	s.stocks(api.ErrSpent, "ann", 1, onceOf(0))
	s.stocks(api.OK, "ann", 1, onceOf(4))
	if o, e := s.fetch("ann", 1); e != api.OK || o.At != 2 || o.Size != 3 || o.Listing.Number != 2 || o.Once != onceOf(0) {
		t.Errorf("Fetch: %v, %v", o, e)
	}
	s.enters(ann.line("ann", 1, 1), 0, api.ErrStale)
	s.enters(bob.line("ann", 1, 9), 0, api.ErrTaken)
	s.check("refused")
	s.enters(ann.gone("ann", 1, 3), 3, api.OK)
	for _, l := range [][]api.Key{nil, keys(9, 1), keys(0, 1), keys(9, 200), {zero, zero}} {
		s.stocks(api.ErrGone, "ann", 1, l...)
	}
	if o, e := s.fetch("ann", 1); o != (api.Offered{}) || e != api.ErrGone {
		t.Errorf("Fetch of one that is gone: %v, %v", o, e)
	}
	if n, e := s.d.Ready("ann", 1); n != 4 || e != api.OK {
		t.Errorf("Ready: %d, %v", n, e)
	}
	s.stocks(api.OK, "ann", 2, onceOf(0))
	s.check("gone")
	s.enters(ann.gone("ann", 4, 0), 4, api.OK) // gone from its first listing on
	s.stocks(api.ErrGone, "ann", 4)
	s.stocks(api.ErrGone, "ann", 4, onceOf(1))
	if n, e := s.d.Ready("ann", 4); n != 0 || e != api.OK {
		t.Errorf("Ready: %d, %v", n, e)
	}
	if _, e := s.fetch("ann", 4); e != api.ErrGone {
		t.Errorf("Fetch: %v", e)
	}
	s.check("gone at once")
}
