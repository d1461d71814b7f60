package prekeys

import (
	"testing"

	"pawl/api"
)

// MaxLeaves: what a directory does when its log is full, from inside: so many listings of their own would take most of a minute to be looked at.

// owner is a private key of somebody's; clamped, any two of them are two.
func owner(n byte) api.Key { return api.Key{1: n} }

// signed is a listing that the private key signed.
func signed(t *testing.T, private api.Key, l api.Listing) api.Listing {
	t.Helper()
	l, e := Signed(l, private, make([]byte, api.RandomSize))
	if e != api.OK {
		t.Fatal(e)
	}
	return l
}

// nearlyFull is a directory with room for one listing more; of ann it has the devices 1, with Number 5, and 2, which is gone, and one listing many times over.
func nearlyFull(t *testing.T) *Directory {
	t.Helper()
	d := New()
	for _, l := range []api.Listing{{Name: "ann", Device: 1, Number: 5}, {Name: "ann", Device: 2, Gone: true}} {
		if _, e := d.Enter(signed(t, owner(1), l)); e != api.OK {
			t.Fatal(e)
		}
	}
	for d.Size() < api.MaxLeaves-1 {
		l := api.Listing{Name: "ann", Device: 4, Number: uint32(d.Size())}
		at, e := d.Append(api.Key{byte(d.Size()), byte(d.Size() >> 8)})
		if at != d.Size() || e != api.OK {
			t.Fatal(at, e)
		}
		d.listings = append(d.listings, l)
		d.list(label{"ann", 4}, at)
	}
	return d
}

func TestFull(t *testing.T) {
	a, b := owner(1), owner(2)
	for _, last := range []api.Listing{signed(t, a, api.Listing{Name: "ann", Device: 1, Number: 6}), signed(t, b, api.Listing{Name: "bob", Device: 1})} {
		d := nearlyFull(t)
		if at, e := d.Enter(last); at != api.MaxLeaves-1 || e != api.OK {
			t.Fatalf("the last one: %d, %v", at, e)
		}
		root, _ := d.Root(api.MaxLeaves)
		spoilt := signed(t, a, api.Listing{Name: "ann", Device: 1, Number: 7})
		spoilt.Sig[0] ^= 1
		for _, x := range []struct {
			l api.Listing
			e api.Errno
		}{
			{signed(t, a, api.Listing{Name: "ann", Device: 1, Number: 7}), api.ErrLong},
			{signed(t, a, api.Listing{Name: "ann", Device: 3}), api.ErrLong},
			{signed(t, b, api.Listing{Name: "eve", Device: 1}), api.ErrLong},
			{signed(t, a, api.Listing{Name: "ann", Device: 1, Number: 5}), api.ErrStale},
			{signed(t, a, api.Listing{Name: "ann", Device: 2, Number: 5}), api.ErrGone},
			{signed(t, b, api.Listing{Name: "ann", Device: 1, Number: 7}), api.ErrTaken},
			{spoilt, api.ErrSigned},
			{signed(t, a, api.Listing{Name: "ann", Device: 5, Number: 7}), api.ErrName},
		} {
			if at, e := d.Enter(x.l); at != 0 || e != x.e {
				t.Errorf("%v of %s %d: %d, %v", x.e, x.l.Name, x.l.Device, at, e)
			}
		}
		if got, e := d.Root(api.MaxLeaves); got != root || e != api.OK || d.Size() != api.MaxLeaves || len(d.Listings()) != api.MaxLeaves {
			t.Errorf("what was refused has changed something: %v", e)
		}
		if _, _, e := d.Find("eve", 1); e != api.ErrNobody {
			t.Errorf("Find of one that was refused: %v", e)
		}
		if l, at, e := d.Find(last.Name, 1); l != last || at != api.MaxLeaves-1 || e != api.OK {
			t.Errorf("Find of the last one: %v, %d, %v", l, at, e)
		}
		checkLast(t, d, last)
	}
}

// checkLast: the last of so many is offered and held.
func checkLast(t *testing.T, d *Directory, last api.Listing) {
	t.Helper()
	o, e := d.Fetch(last.Name, 1)
	if o != (api.Offered{Listing: last, At: api.MaxLeaves - 1, Size: api.MaxLeaves}) || e != api.OK {
		t.Errorf("Fetch: %v, %v", o, e)
	}
	root, _ := d.Root(o.Size)
	path, e := d.Path(o.At, o.Size)
	if e != api.OK || len(path) != 16 {
		t.Errorf("a path of %d keys: %v", len(path), e)
	}
	if e := Hold(o, last.Name, 1, last.Identity, root, path); e != api.OK {
		t.Errorf("Hold: %v", e)
	}
}
