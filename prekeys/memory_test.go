package prekeys_test

import (
	"bytes"
	"slices"
	"sync"
	"testing"

	"pawl/api"
	"pawl/prekeys"
)

// What is handed in is neither changed nor kept, and what is given is new memory, room too; a refusal changes nothing; two directories know nothing of one another.

// spoil overwrites a list, room too.
func spoil[T any](l []T, with T) {
	l = l[:cap(l)]
	for i := range l {
		l[i] = with
	}
}

// withRoom is a list as it is handed in, and all that it stands in.
func withRoom[T any](l []T, with T) (handed, whole []T) {
	whole = slices.Concat([]T{with}, l, slices.Repeat([]T{with}, 50))
	return whole[1 : 1+len(l)], whole
}

var (
	spoiltKey     = api.Key{0xa5}
	spoiltListing = api.Listing{Name: "spoilt", Device: 9, Number: 5}
)

func TestNothingIsChanged(t *testing.T) {
	all := many(t).w.listings
	for n := range len(all) + 1 {
		handed, whole := withRoom(all[:n], spoiltListing)
		was := slices.Clone(whole)
		d, e := prekeys.From(handed)
		if e != api.OK {
			t.Fatal(e)
		}
		s := &both{t, d, &told{listings: slices.Clone(all[:n])}}
		s.enters(ann.line("fay", 1, 1), n, api.OK)
		s.enters(ann.line("fay", 1, 2), n+1, api.OK)
		if !slices.Equal(whole, was) {
			t.Fatalf("of %d: what was handed to From has changed", n)
		}
		spoil(whole, spoiltListing)
		s.check("behind spoiling")
	}
	s := of(t, ann.line("ann", 1, 1))
	for n := range 10 {
		handed, whole := withRoom(keys(10*n, n), spoiltKey)
		was := slices.Clone(whole)
		s.stocks(api.OK, "ann", 1, handed...)
		s.stocks(api.OK, "ann", 1, onceOf(1000+n))
		s.d.Stock("ann", 1, handed)
		s.d.Stock("ann", 1, whole)
		if !slices.Equal(whole, was) {
			t.Fatalf("of %d: what was handed to Stock has changed", n)
		}
		spoil(whole, spoiltKey)
		s.check("behind spoiling")
	}
	for range 55 {
		s.fetch("ann", 1)
	}
}

// Bytes and paths that are handed in.
func TestNothingIsChangedOfBytes(t *testing.T) {
	random, wholeRandom := withRoom(bytes.Repeat([]byte{7}, 64), 0xa5)
	was := slices.Clone(wholeRandom)
	l, e := prekeys.Signed(api.Listing{Name: "ann", Device: 1}, x, random)
	if e != api.OK || !bytes.Equal(wholeRandom, was) {
		t.Errorf("Signed: %v", e)
	}
	spoil(wholeRandom, 0xa5)
	checkCheck(t, "behind spoiling", l, api.OK)
	for _, b := range [][]byte{packByWords(l), packByWords(l)[:60], append(packByWords(l), 1)} {
		handed, whole := withRoom(b, 0xa5)
		was := slices.Clone(whole)
		got, _ := prekeys.Parse(handed)
		if !bytes.Equal(whole, was) {
			t.Error("what was handed to Parse has changed")
		}
		want, _ := parseByWords(t, b)
		spoil(whole, 0xa5)
		if got != want {
			t.Error("what Parse answered has changed")
		}
	}
	h := offered(t, many(t), "ann", 1)
	path, wholePath := withRoom(h.path, spoiltKey)
	wasPath := slices.Clone(wholePath)
	h.path = path
	h.must(t, "with room", api.OK)
	h.o.At = 3
	h.must(t, "another place", api.ErrProof)
	if !slices.Equal(wholePath, wasPath) {
		t.Error("what was handed to Hold has changed")
	}
}

func TestNothingIsShared(t *testing.T) {
	s := many(t)
	s.stocks(api.OK, "ann", 1, keys(0, 20)...)
	for round := range 4 {
		listings, devices := s.d.Listings(), s.d.Devices("ann")
		path, growth := pathOf(t, s.d, 3, 8), growthOf(t, s.d, 3, 8)
		others, numbers := s.d.Listings(), s.d.Devices("ann")
		beside, grown := pathOf(t, s.d, 3, 8), growthOf(t, s.d, 3, 8)
		was, stood := slices.Clone(others[:cap(others)]), slices.Clone(numbers[:cap(numbers)])
		spoil(listings, spoiltListing)
		spoil(devices, 77)
		spoil(path, spoiltKey)
		spoil(growth, spoiltKey)
		s.check("behind spoiling")
		if !slices.Equal(others[:cap(others)], was) || !slices.Equal(numbers[:cap(numbers)], stood) {
			t.Fatal("two answers share memory")
		}
		log := s.w.log(t)
		if want, _ := log.Path(3, 8); !slices.Equal(beside, want) {
			t.Fatal("two paths share memory")
		}
		if want, _ := log.Growth(3, 8); !slices.Equal(grown, want) {
			t.Fatal("two growths share memory")
		}
		s.enter(ann.line("ann", 1, uint32(10+round)))
		s.fetch("ann", 1)
		s.stocks(api.OK, "ann", 1, onceOf(100+round))
		if !slices.Equal(others[:cap(others)], was) || !slices.Equal(numbers[:cap(numbers)], stood) {
			t.Fatal("an answer changes with the directory")
		}
		spoil(others, spoiltListing)
		spoil(numbers, 77)
		s.check("behind calls and spoiling")
	}
}

func growthOf(t *testing.T, d *prekeys.Directory, m, n int) []api.Key {
	t.Helper()
	growth, e := d.Growth(m, n)
	if e != api.OK {
		t.Fatalf("Growth(%d, %d): %v", m, n, e)
	}
	return growth
}

// Bytes that are answered are new each time.
func TestBytesAreNew(t *testing.T) {
	l := some()
	for range 3 {
		text, pack := prekeys.Text(l), prekeys.Pack(l)
		other, again := prekeys.Text(l), prekeys.Pack(l)
		spoil(text, 0xa5)
		spoil(pack, 0xa5)
		if !bytes.Equal(other, textByWords(l)) || !bytes.Equal(again, packByWords(l)) {
			t.Fatal("two answers share memory")
		}
	}
}

// Each error is a new one: a fault that somebody writes to is no other call's.
func TestFaultsAreNew(t *testing.T) {
	b := packByWords(some())
	for _, b := range [][]byte{nil, b[:20], b[:len(b)-1], append(slices.Clone(b), 0)} {
		_, one := prekeys.Parse(b)
		_, two := prekeys.Parse(b)
		f, g := one.(*api.Fault), two.(*api.Fault)
		if f == g || *f != *g {
			t.Fatalf("%v, %v", f, g)
		}
		*f = api.Fault{Line: 7, At: 7, Why: 7}
		checkParse(t, b)
	}
}

// What is asked changes nothing, nor what is refused.
func TestAskedTwice(t *testing.T) {
	s := many(t)
	s.stocks(api.OK, "ann", 1, keys(0, 5)...)
	for range 3 {
		s.check("asked")
		s.enters(ann.line("ann", 1, 2), 0, api.ErrStale)
		s.enters(bob.line("ann", 4, 2), 0, api.ErrTaken)
		s.enters(bob.line("bob", 4, 7), 0, api.ErrGone)
		s.enters(api.Listing{Name: "zoe", Device: 1}, 0, api.ErrSigned)
		s.stocks(api.ErrSpent, "ann", 1, onceOf(9), onceOf(4))
		s.stocks(api.ErrLong, "ann", 1, keys(9, 96)...)
	}
	s.stocks(api.OK, "ann", 1, onceOf(9))
	for _, n := range []int{0, 1, 2, 3, 4, 9} {
		s.gives("ann", 1, onceOf(n), true)
	}
}

func TestTwoDirectories(t *testing.T) {
	s := many(t)
	s.stocks(api.OK, "ann", 1, keys(0, 3)...)
	again, e := prekeys.From(s.d.Listings())
	if e != api.OK {
		t.Fatal(e)
	}
	two := &both{t, again, &told{listings: slices.Clone(s.w.listings)}}
	two.stocks(api.OK, "ann", 1, keys(2, 3)...)
	s.enters(ann.line("ann", 4, 1), 8, api.OK)
	two.enters(ann.line("ann", 2, 9), 8, api.OK)
	two.gives("ann", 1, onceOf(2), true)
	s.gives("ann", 1, onceOf(0), true)
	s.check("one")
	two.check("two")
	newBoth(t).check("new")
}

// TestAtOnce: directories of several goroutines go each its own way.
func TestAtOnce(t *testing.T) {
	listings := slices.Clone(many(t).w.listings)
	l, k := ann.line("ann", 4, 1), keys(0, 30)
	var all sync.WaitGroup
	for i := range 8 {
		all.Go(func() {
			d, e := prekeys.From(listings)
			if e != api.OK {
				t.Error(e)
				return
			}
			d.Stock("ann", 1, k[:i])
			at, e := d.Enter(l)
			if at != 8 || e != api.OK {
				t.Errorf("number %d: Enter: %d, %v", i, at, e)
			}
			for n := range 8 {
				o, e := d.Fetch("ann", 1)
				if e != api.OK || o.HasOnce != (n < i) || n < i && o.Once != k[n] {
					t.Errorf("number %d: Fetch: %v, %v", i, o, e)
				}
				root, _ := d.Root(o.Size)
				path, _ := d.Path(o.At, o.Size)
				if e := prekeys.Hold(o, "ann", 1, ann.identity, root, path); e != api.OK {
					t.Errorf("number %d: Hold: %v", i, e)
				}
			}
			if back, err := prekeys.Parse(prekeys.Pack(l)); back != l || err != nil {
				t.Errorf("number %d: Parse: %v", i, err)
			}
		})
	}
	all.Wait()
}
