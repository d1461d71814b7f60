package prekeys_test

import (
	"math/rand"
	"slices"
	"testing"

	"pawl/api"
	"pawl/prekeys"
	"pawl/tree"
)

// P23.10, P23.11, P23.14 and P23.15: what drawn calls come to, one behind the other.

// drawer draws calls about a few names, devices and keys.
type drawer struct {
	*rand.Rand
	names []string
	lines map[api.Listing]api.Listing // what was signed, so that nothing is signed twice
}

func newDrawer(seed int64, names ...string) *drawer {
	return &drawer{rand.New(rand.NewSource(seed)), names, map[api.Listing]api.Listing{}}
}

// at is a name and a device's number, now and then such as nobody has.
func (d *drawer) at() (string, int) {
	if d.Intn(40) == 0 {
		return []string{"", "Ann", "zz", "an"}[d.Intn(4)], d.Intn(7) - 1
	}
	return d.names[d.Intn(len(d.names))], 1 + d.Intn(4)
}

// line is a listing, mostly of the name's own owner and signed rightly; low numbers come often.
func (d *drawer) line() api.Listing {
	name, device := d.at()
	l := api.Listing{Name: name, Device: device, Signed: api.Key{byte(d.Intn(2))}, Number: uint32(d.Intn(8)), Gone: d.Intn(8) == 0}
	by := ann
	if (len(name) > 0 && name[0]%2 == 0) != (d.Intn(12) == 0) {
		by = bob
	}
	l.Identity = by.identity
	signed, known := d.lines[l]
	if !known {
		signed = by.sign(l)
		d.lines[l] = signed
	}
	if d.Intn(20) == 0 {
		signed.Sig[d.Intn(64)] ^= 1 << d.Intn(8)
	}
	return signed
}

// onces are some keys of a few.
func (d *drawer) onces() []api.Key {
	var l []api.Key
	for range d.Intn(4) {
		l = append(l, onceOf(d.Intn(30)))
	}
	return l
}

// call makes one of the calls that change something, and holds it against the words.
func (d *drawer) call(s *both) api.Errno {
	s.t.Helper()
	name, device := d.at()
	switch d.Intn(6) {
	case 0, 1:
		return s.enter(d.line())
	case 2, 3:
		return s.stock(name, device, d.onces()...)
	}
	_, e := s.fetch(name, device)
	return e
}

func TestRuns(t *testing.T) {
	found := map[api.Errno]int{}
	for seed := range int64(30) {
		d := newDrawer(2320+seed, people(1+int(seed)%6)...)
		s := newBoth(t)
		for i := range 120 {
			found[d.call(s)]++
			if i%4 == 0 {
				s.check("a run")
			}
		}
		s.check("a run's end")
	}
	for _, e := range []api.Errno{api.OK, api.ErrName, api.ErrNobody, api.ErrTaken, api.ErrSigned, api.ErrSpent, api.ErrGone, api.ErrStale} {
		if found[e] < 10 {
			t.Errorf("%v is answered %d times", e, found[e])
		}
	}
}

// P23.10: each key that is given out of a device came once and is given once, in the order in which they came.
func TestOnce(t *testing.T) {
	for seed := range int64(10) {
		d := newDrawer(2340+seed, "ann", "bob")
		s := of(t, ann.line("ann", 1, 0), bob.line("bob", 2, 0))
		came, given := map[string][]api.Key{}, map[string][]api.Key{}
		for i := range 600 {
			name := d.names[i%2]
			if d.Intn(3) == 0 {
				l := d.onces()
				if d.Intn(2) == 0 {
					l = keys(1000+5*i, d.Intn(5))
				}
				if s.d.Stock(name, 1+i%2, l) == api.OK {
					came[name] = append(came[name], l...)
				}
			} else if o, e := s.d.Fetch(name, 1+i%2); e != api.OK {
				t.Fatal(e)
			} else if o.HasOnce {
				given[name] = append(given[name], o.Once)
			}
			if n := len(given[name]); n > len(came[name]) || !slices.Equal(given[name], came[name][:n]) {
				t.Fatalf("%x came, %x were given", came[name], given[name])
			}
			if n, _ := s.d.Ready(name, 1+i%2); n != len(came[name])-len(given[name]) {
				t.Fatalf("%d lie ready", n)
			}
		}
		for _, name := range d.names {
			all := slices.Clone(given[name])
			slices.SortFunc(all, func(a, b api.Key) int { return slices.Compare(a[:], b[:]) })
			if len(all) < 50 || len(slices.Compact(all)) != len(given[name]) {
				t.Errorf("%d keys were given, some of them twice", len(all))
			}
		}
	}
}

// P23.11: behind every call the growth from each earlier size holds; and no elder root is another one.
func TestLog(t *testing.T) {
	for seed := range int64(6) {
		d := newDrawer(2350+seed, people(3)...)
		s := newBoth(t)
		roots := []api.Key{rootOf(t, s.d, 0)}
		for range 80 {
			d.call(s)
			n := s.d.Size()
			if n == len(roots) {
				roots = append(roots, rootOf(t, s.d, n))
			}
			for m, was := range roots {
				growth, e := s.d.Growth(m, n)
				if e != api.OK || tree.Grown(was, m, roots[n], n, growth) != api.OK || rootOf(t, s.d, m) != was {
					t.Fatalf("from %d to %d: %v", m, n, e)
				}
			}
			if len(roots) != n+1 {
				t.Fatalf("%d roots of %d listings", len(roots), n)
			}
		}
	}
}

// P23.14: one identity of a name, rising numbers of a device, nothing behind one that is gone.
func TestOneOwner(t *testing.T) {
	for seed := range int64(10) {
		d := newDrawer(2360+seed, people(4)...)
		s := newBoth(t)
		for range 150 {
			s.enter(d.line())
		}
		l := s.d.Listings()
		if len(l) < 15 {
			t.Errorf("only %d listings", len(l))
		}
		for i, a := range l {
			for _, b := range l[i+1:] {
				if a.Name != b.Name {
					continue
				}
				if a.Identity != b.Identity {
					t.Fatalf("two identities of %s", a.Name)
				}
				if a.Device == b.Device && (a.Gone || a.Number >= b.Number) {
					t.Fatalf("%s %d: number %d behind number %d, gone: %v", a.Name, a.Device, b.Number, a.Number, a.Gone)
				}
			}
		}
	}
}

// P23.15: behind From of its listings a directory goes on as it would have, but for the keys for once.
func TestAgain(t *testing.T) {
	for seed := range int64(12) {
		d := newDrawer(2370+seed, people(1+int(seed)%4)...)
		s := newBoth(t)
		for range 15 + d.Intn(60) {
			d.call(s)
		}
		again, e := prekeys.From(s.d.Listings())
		if e != api.OK {
			t.Fatal(e)
		}
		two := &both{t, again, &told{listings: slices.Clone(s.w.listings)}}
		two.check("From")
		for range 50 {
			name, device := d.at()
			if d.Intn(2) == 0 {
				l := d.line()
				if e, why := s.enter(l), two.enter(l); e != why {
					t.Fatalf("Enter: %v and %v", e, why)
				}
				continue
			}
			one, e := s.fetch(name, device)
			one.Once, one.HasOnce = zero, false
			if other, why := two.fetch(name, device); one != other || e != why {
				t.Fatalf("Fetch: %v, %v, and %v, %v", one, e, other, why)
			}
		}
		two.check("behind all")
		s.check("behind all")
		if !slices.Equal(s.d.Listings(), again.Listings()) {
			t.Fatal("two lists of listings")
		}
	}
}
