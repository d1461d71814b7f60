package prekeys_test

import (
	"bytes"
	"slices"
	"testing"

	"pawl/api"
	"pawl/curve"
	"pawl/prekeys"
)

// The chapter's examples.

// signedBy is a listing that is signed by a private key.
func signedBy(t *testing.T, private api.Key, l api.Listing) api.Listing {
	t.Helper()
	l, e := prekeys.Signed(l, private, bytes.Repeat([]byte{0x31}, 64))
	if e != api.OK {
		t.Fatal(e)
	}
	return l
}

// first is a directory behind the first example.
func first(t *testing.T, a api.Key) *both {
	t.Helper()
	return of(t,
		signedBy(t, a, api.Listing{Name: "ann", Device: 1, Signed: x, Number: 1}),
		signedBy(t, a, api.Listing{Name: "ann", Device: 1, Signed: x, Number: 2}),
		signedBy(t, a, api.Listing{Name: "ann", Device: 2, Signed: x}),
	)
}

func TestExample1(t *testing.T) {
	a := api.Key{7}
	s := newBoth(t)
	one := signedBy(t, a, api.Listing{Name: "ann", Device: 1, Signed: x, Number: 1})
	s.enters(one, 0, api.OK)
	s.enters(one, 0, api.ErrStale)
	s.enters(signedBy(t, a, api.Listing{Name: "ann", Device: 1, Signed: x, Number: 2}), 1, api.OK)
	s.enters(signedBy(t, a, api.Listing{Name: "ann", Device: 2, Signed: x}), 2, api.OK)
	s.enters(signedBy(t, a, api.Listing{Name: "ann", Device: 5, Signed: x}), 0, api.ErrName)
	s.enters(signedBy(t, a, api.Listing{Name: "Ann", Device: 1, Signed: x}), 0, api.ErrName)
	s.enters(signedBy(t, api.Key{8}, api.Listing{Name: "ann", Device: 3, Signed: x}), 0, api.ErrTaken)
	changed := signedBy(t, a, api.Listing{Name: "ann", Device: 3, Signed: x})
	changed.Signed = y
	s.enters(changed, 0, api.ErrSigned)
	s.check("example 1")
}

func TestExample2(t *testing.T) {
	s := first(t, api.Key{7})
	s.stocks(api.OK, "ann", 1, x, y)
	s.stocks(api.ErrSpent, "ann", 1, y)
	s.stocks(api.ErrNobody, "bob", 1, z)
	o, e := s.d.Fetch("ann", 1)
	if want := (api.Offered{Listing: s.w.listings[1], At: 1, Size: 3, Once: x, HasOnce: true}); o != want || e != api.OK || o.Listing.Number != 2 {
		t.Errorf("Fetch: %v, %v", o, e)
	}
	if o, e := s.d.Fetch("ann", 1); o.Once != y || !o.HasOnce || e != api.OK {
		t.Errorf("Fetch again: %v, %v", o, e)
	}
	if o, e := s.d.Fetch("ann", 1); o != (api.Offered{Listing: s.w.listings[1], At: 1, Size: 3}) || e != api.OK {
		t.Errorf("Fetch of none: %v, %v", o, e)
	}
}

func TestExample3(t *testing.T) {
	a := api.Key{7}
	s := first(t, a)
	s.enters(signedBy(t, a, api.Listing{Name: "ann", Device: 1, Number: 3, Gone: true}), 3, api.OK)
	if o, e := s.fetch("ann", 1); o != (api.Offered{}) || e != api.ErrGone {
		t.Errorf("Fetch: %v, %v", o, e)
	}
	if l := s.d.Devices("ann"); !slices.Equal(l, []int{2}) {
		t.Errorf("Devices: %v", l)
	}
	s.enters(signedBy(t, a, api.Listing{Name: "ann", Device: 1, Number: 9}), 0, api.ErrGone)
	s.check("example 3")
}

func TestExample4(t *testing.T) {
	a := api.Key{7}
	s := first(t, a)
	o, _ := s.fetch("ann", 1)
	root, _ := s.d.Root(3)
	path, _ := s.d.Path(1, 3)
	if e := prekeys.Hold(o, "ann", 1, curve.Public(a), root, path); e != api.OK {
		t.Errorf("Hold: %v", e)
	}
	for _, at := range []int{0, 2} {
		other := o
		other.At = at
		path, _ := s.d.Path(at, 3)
		if e := prekeys.Hold(other, "ann", 1, curve.Public(a), root, path); e != api.ErrProof {
			t.Errorf("Hold at %d: %v", at, e)
		}
	}
}
