package prekeys_test

import (
	"math"
	"slices"
	"strings"
	"testing"

	"pawl/api"
	"pawl/prekeys"
)

// P23.4, P23.6 and P23.8: what is entered, and what is found of it.

// checkFrom holds From against listings that are entered by the words; it answers what From does.
func checkFrom(t *testing.T, l []api.Listing) api.Errno {
	t.Helper()
	w, want := &told{}, api.OK
	for _, one := range l {
		if _, want = w.enter(one); want != api.OK {
			break
		}
	}
	d, e := prekeys.From(l)
	if e != want || (d != nil) != (want == api.OK) {
		t.Fatalf("From of %d: %v, %v, not %v", len(l), d != nil, e, want)
	}
	if d != nil {
		checkDirectory(t, "From", d, w, "nobody")
	}
	return e
}

func TestNew(t *testing.T) {
	s := newBoth(t)
	s.check("New")
	if s.d.Size() != 0 || len(s.d.Listings()) != 0 || len(s.d.Devices("ann")) != 0 {
		t.Error("something is there")
	}
	if e := checkFrom(t, nil); e != api.OK {
		t.Error(e)
	}
	if e := checkFrom(t, []api.Listing{}); e != api.OK {
		t.Error(e)
	}
}

func TestEnter(t *testing.T) {
	s := newBoth(t)
	for i, l := range []api.Listing{
		ann.line("ann", 1, 0), ann.line("ann", 4, 7), bob.line("bob", 1, 0), ann.line("ann", 1, 1), bob.line("bob", 4, math.MaxUint32),
		ann.line("ann", 1, math.MaxUint32), ann.gone("ann", 4, 8), ann.line("eve", 4, 0), bob.gone("bob", 2, 0), ann.line("ann", 2, 1<<31), ann.gone("ann", 3, math.MaxUint32),
	} {
		s.enters(l, i, api.OK)
		s.check("Enter")
		if e := checkFrom(t, s.d.Listings()); e != api.OK {
			t.Fatal(e)
		}
	}
	for name, want := range map[string][]int{"ann": {1, 2}, "bob": {1, 4}, "eve": {4}, "an": nil, "annn": nil} {
		if got := s.d.Devices(name); !slices.Equal(got, want) {
			t.Errorf("Devices(%q): %v, not %v", name, got, want)
		}
	}
}

// Each refusal by itself, and ahead of those that come behind it: each listing is wrong in all ways from one on.
func TestRefusals(t *testing.T) {
	full := []api.Listing{ann.line("ann", 1, 5), ann.gone("ann", 2, 5), ann.line("ann", 3, math.MaxUint32)}
	spoilt := func(l api.Listing) api.Listing {
		l.Sig[40] ^= 1
		return l
	}
	for _, x := range []struct {
		what string
		l    api.Listing
		e    api.Errno
	}{
		{"no name, no signature", spoilt(ann.line("Ann", 2, 1)), api.ErrName},
		{"no number, no signature", spoilt(bob.line("ann", 5, 1)), api.ErrName},
		{"no number", ann.line("ann", 0, 9), api.ErrName},
		{"no signature of a gone device's", spoilt(bob.line("ann", 2, 1)), api.ErrSigned},
		{"no signature of an elder one's", spoilt(ann.line("ann", 1, 1)), api.ErrSigned},
		{"no signature", spoilt(ann.line("ann", 1, 6)), api.ErrSigned},
		{"no signature of somebody new", spoilt(bob.line("bob", 1, 6)), api.ErrSigned},
		{"another's of a gone device", bob.line("ann", 2, 1), api.ErrTaken},
		{"another's that is gone", bob.gone("ann", 2, 9), api.ErrTaken},
		{"another's, elder", bob.line("ann", 1, 1), api.ErrTaken},
		{"another's", bob.line("ann", 1, 6), api.ErrTaken},
		{"another's, of a new device", bob.line("ann", 4, 0), api.ErrTaken},
		{"of a gone device, elder", ann.line("ann", 2, 1), api.ErrGone},
		{"of a gone device, the same", ann.gone("ann", 2, 5), api.ErrGone},
		{"of a gone device", ann.line("ann", 2, 6), api.ErrGone},
		{"of a gone device, gone again", ann.gone("ann", 2, 6), api.ErrGone},
		{"elder", ann.line("ann", 1, 4), api.ErrStale},
		{"the first number", ann.line("ann", 1, 0), api.ErrStale},
		{"the same", ann.line("ann", 1, 5), api.ErrStale},
		{"gone with the same number", ann.gone("ann", 1, 5), api.ErrStale},
		{"behind the last number", ann.line("ann", 3, 0), api.ErrStale},
		{"the last number again", ann.gone("ann", 3, math.MaxUint32), api.ErrStale},
	} {
		s := of(t, full...)
		s.enters(x.l, 0, x.e)
		s.check(x.what)
		for at := range full { // refused wherever it stands, the listings ahead of it being there
			if e := checkFrom(t, slices.Insert(slices.Clone(full), at, x.l)); at == len(full) && e != x.e {
				t.Errorf("%s: From: %v", x.what, e)
			}
		}
		if e := checkFrom(t, append(slices.Clone(full), x.l, bob.line("bob", 1, 1))); e != x.e {
			t.Errorf("%s: From: %v", x.what, e)
		}
		s.enters(ann.line("ann", 1, 6), 3, api.OK)
		s.enters(bob.line("bob", 1, 0), 4, api.OK)
		s.check("behind a refusal")
	}
}

// The first error of From is that of the first listing that is refused.
func TestFromFirstError(t *testing.T) {
	stale, taken, good := ann.line("ann", 1, 0), bob.line("ann", 2, 1), ann.line("ann", 1, 1)
	for _, x := range []struct {
		l []api.Listing
		e api.Errno
	}{
		{[]api.Listing{good, stale, taken}, api.ErrStale}, {[]api.Listing{good, taken, stale}, api.ErrTaken}, {[]api.Listing{{}, good, stale}, api.ErrName},
		{[]api.Listing{stale, good, taken}, api.ErrTaken}, {[]api.Listing{stale, good}, api.OK}, {[]api.Listing{taken, good}, api.ErrTaken}, {[]api.Listing{good, good}, api.ErrStale},
	} {
		if e := checkFrom(t, x.l); e != x.e {
			t.Errorf("%v, not %v", e, x.e)
		}
	}
}

// One owner may have several names, and each name but one owner; devices of one number are each name's own.
func TestNamesAndNumbers(t *testing.T) {
	s := of(t, ann.line("ann", 1, 9), ann.line("anna", 1, 1), ann.line("a", 1, 0), bob.line("an", 1, 5), bob.line("nna", 1, 2))
	s.enters(ann.line("anna", 1, 2), 5, api.OK)
	s.enters(bob.line("anna", 2, 2), 0, api.ErrTaken)
	s.enters(ann.gone("ann", 1, 10), 6, api.OK)
	s.enters(ann.line("anna", 1, 3), 7, api.OK)
	s.enters(ann.line("ann", 2, 0), 8, api.OK)
	s.enters(bob.line("an", 1, 4), 0, api.ErrStale)
	s.check("names and numbers")
}

// MaxPeople: the 65th name is refused, whatever became of the devices of the others; more devices of those are not.
func TestPeople(t *testing.T) {
	l := people(mostPeople + 2)
	s := newBoth(t)
	for i, name := range l[:mostPeople] {
		s.enters(ann.line(name, 1+i%4, 1), i, api.OK)
	}
	s.check("64 names")
	if e := checkFrom(t, s.d.Listings()); e != api.OK {
		t.Error(e)
	}
	s.enters(ann.line(l[64], 1, 1), 0, api.ErrLong)
	s.enters(bob.line(l[65], 1, 1), 0, api.ErrLong)
	s.enters(bob.gone(l[65], 1, 1), 0, api.ErrLong)
	s.enters(bob.line(l[63], 1, 1), 0, api.ErrTaken)
	s.enters(ann.line(l[0], 1, 1), 0, api.ErrStale)
	wrong := ann.line(l[64], 1, 1)
	wrong.Number = 2
	s.enters(wrong, 0, api.ErrSigned)
	s.enters(ann.line("Ann", 1, 1), 0, api.ErrName)
	s.enters(ann.line(l[0], 2, 0), 64, api.OK)
	s.enters(ann.gone(l[63], 4, 2), 65, api.OK)
	s.enters(ann.line(l[64], 1, 1), 0, api.ErrLong) // one that is gone counts
	s.enters(ann.line(l[1], 2, 2), 66, api.OK)
	s.check("more of 64 names")
	if e := checkFrom(t, append(s.d.Listings(), ann.line(l[64], 1, 1))); e != api.ErrLong {
		t.Error(e)
	}
	if e := checkFrom(t, s.d.Listings()); e != api.OK {
		t.Error(e)
	}
}

// Names are counted, not their devices nor their listings: with four devices each, twice listed, there may be as many.
func TestPeopleOfManyDevices(t *testing.T) {
	s := newBoth(t)
	for i, name := range people(mostPeople) {
		devices, by := 1, []owner{ann, bob}[i%2]
		if i < 20 || i == mostPeople-1 {
			devices = mostDevices
		}
		for device := 1; device <= devices; device++ {
			s.enters(by.line(name, device, 0), s.d.Size(), api.OK)
		}
		s.enters(by.gone(name, 1, 1), s.d.Size(), api.OK)
	}
	s.enters(ann.line("new", 1, 0), 0, api.ErrLong)
	s.check("many devices")
}

// Names and numbers that nobody has, among them such as nobody can have.
func TestNobody(t *testing.T) {
	s := of(t, ann.line("ann", 1, 1), ann.line("ann", 2, 1), bob.line("bob", 4, 1))
	for _, x := range []struct {
		name   string
		device int
	}{{"eve", 1}, {"", 1}, {"ann", 3}, {"bob", 1}, {"ann", 0}, {"ann", -1}, {"ann", 5}, {"ann", 257}, {"ann", 1<<32 + 1}, {"ann", math.MinInt + 1}, {"Ann", 1}, {"an", 1}, {"ann\x00", 1}, {"bob", math.MaxInt}, {strings.Repeat("a", 1<<20), 1}} {
		if l, at, e := s.d.Find(x.name, x.device); l != (api.Listing{}) || at != 0 || e != api.ErrNobody {
			t.Errorf("Find(%.20q, %d): %v, %d, %v", x.name, x.device, l, at, e)
		}
		if n, e := s.d.Ready(x.name, x.device); n != 0 || e != api.ErrNobody {
			t.Errorf("Ready(%.20q, %d): %d, %v", x.name, x.device, n, e)
		}
		if o, e := s.d.Fetch(x.name, x.device); o != (api.Offered{}) || e != api.ErrNobody {
			t.Errorf("Fetch(%.20q, %d): %v, %v", x.name, x.device, o, e)
		}
		for _, l := range [][]api.Key{nil, {}, {zero}, {zero, zero}, keys(0, 200)} {
			if e := s.d.Stock(x.name, x.device, l); e != api.ErrNobody {
				t.Errorf("Stock(%.20q, %d, %d keys): %v", x.name, x.device, len(l), e)
			}
		}
	}
	if got := s.d.Devices("eve"); len(got) != 0 {
		t.Errorf("Devices of nobody: %v", got)
	}
	s.check("nobody")
}

// TestZero: a Directory that New did not make acts as one that it did, and in no call panics.
func TestZero(t *testing.T) {
	var asked prekeys.Directory
	checkDirectory(t, "the zero Directory", &asked, &told{}, "ann", "")
	if o, e := asked.Fetch("ann", 1); o != (api.Offered{}) || e != api.ErrNobody {
		t.Errorf("Fetch: %v, %v", o, e)
	}
	if e := asked.Stock("ann", 1, keys(0, 3)); e != api.ErrNobody {
		t.Errorf("Stock: %v", e)
	}
	var refused prekeys.Directory
	if at, e := refused.Enter(api.Listing{}); at != 0 || e != api.ErrName {
		t.Errorf("Enter: %d, %v", at, e)
	}
	s := &both{t, &refused, &told{}}
	s.check("behind a refusal")
	s.enters(ann.line("ann", 1, 1), 0, api.OK)
	s.stocks(api.OK, "ann", 1, x, y)
	s.gives("ann", 1, x, true)
	s.enters(ann.line("ann", 1, 2), 1, api.OK)
	s.enters(bob.line("ann", 1, 2), 0, api.ErrTaken)
	s.check("entered")
}
