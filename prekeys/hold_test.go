package prekeys_test

import (
	"math"
	"slices"
	"testing"

	"pawl/api"
	"pawl/prekeys"
	"pawl/tree"
)

// P23.9, P23.12 and P23.13: whoever is offered keys.

// held is all that Hold is handed.
type held struct {
	o              api.Offered
	name           string
	device         int
	identity, root api.Key
	path           []api.Key
}

func (h held) answer() api.Errno {
	return prekeys.Hold(h.o, h.name, h.device, h.identity, h.root, h.path)
}

// byWords is P23.9.
func (h held) byWords() api.Errno {
	l := h.o.Listing
	if l.Name != h.name || l.Device != h.device {
		return api.ErrNobody
	}
	if e := checkByWords(l); e != api.OK {
		return e
	}
	if h.identity != zero && l.Identity != h.identity {
		return api.ErrTaken
	}
	if l.Gone {
		return api.ErrGone
	}
	return tree.Included(h.root, h.o.Size, h.o.At, leafByWords(l), h.path)
}

// must: the answer is e, by the words too.
func (h held) must(t *testing.T, what string, e api.Errno) {
	t.Helper()
	if got, want := h.answer(), h.byWords(); got != e || want != e {
		t.Errorf("%s: %v; by the words %v; not %v", what, got, want, e)
	}
}

// rootOf and pathOf are a directory's; the test ends if they are refused.
func rootOf(t *testing.T, d *prekeys.Directory, n int) api.Key {
	t.Helper()
	root, e := d.Root(n)
	if e != api.OK {
		t.Fatalf("Root(%d): %v", n, e)
	}
	return root
}

func pathOf(t *testing.T, d *prekeys.Directory, at, n int) []api.Key {
	t.Helper()
	path, e := d.Path(at, n)
	if e != api.OK {
		t.Fatalf("Path(%d, %d): %v", at, n, e)
	}
	return path
}

// offered is what a directory gives out of a device now, with the root and path of now.
func offered(t *testing.T, s *both, name string, device int) held {
	t.Helper()
	o, e := s.fetch(name, device)
	if e != api.OK {
		t.Fatal(e)
	}
	return held{o, name, device, o.Listing.Identity, rootOf(t, s.d, o.Size), pathOf(t, s.d, o.At, o.Size)}
}

// many is a directory of several people.
func many(t *testing.T) *both {
	t.Helper()
	return of(t, ann.line("ann", 1, 1), bob.line("bob", 1, 1), ann.line("ann", 2, 4), ann.gone("ann", 3, 0), ann.line("ann", 1, 2), bob.line("bob", 4, 0), bob.gone("bob", 4, 1), ann.line("eve", 2, 9))
}

func TestHold(t *testing.T) {
	s := many(t)
	for _, x := range []struct {
		name   string
		device int
	}{{"ann", 1}, {"ann", 2}, {"bob", 1}, {"eve", 2}} {
		h := offered(t, s, x.name, x.device)
		h.must(t, "as it is", api.OK)
		h.identity = zero
		h.must(t, "whichever identity", api.OK)
		h.o.Once, h.o.HasOnce = onceOf(1), true // no proof is about it
		h.must(t, "with a key for once", api.OK)
	}
}

// P23.12: with the root and path of then, and of each later size.
func TestHoldLater(t *testing.T) {
	s := newBoth(t)
	var all []held
	for i := range 12 {
		s.enters(ann.line("ann", 1+i%2, uint32(i)), i, api.OK)
		all = append(all, offered(t, s, "ann", 1+i%2))
		for _, h := range all {
			h.must(t, "with what was then", api.OK)
			for n := h.o.Size; n <= s.d.Size(); n++ {
				later := h
				later.o.Size, later.root, later.path = n, rootOf(t, s.d, n), pathOf(t, s.d, h.o.At, n)
				later.must(t, "with what is now", api.OK)
			}
		}
	}
}

// Each refusal by itself, and ahead of those that come behind it.
func TestHoldRefusals(t *testing.T) {
	s := many(t)
	h := offered(t, s, "ann", 1)
	gone := h
	gone.o.Listing, gone.o.At, gone.device, gone.path = s.w.listings[3], 3, 3, pathOf(t, s.d, 3, 8)
	// wrong is each way in which it can be wrong, in the order of the chapter.
	wrong := []struct {
		e      api.Errno
		change func(h *held)
	}{
		{api.ErrNobody, func(h *held) { h.name = "eve" }},
		{api.ErrNobody, func(h *held) { h.device = 4 }},
		{api.ErrSigned, func(h *held) { h.o.Listing.Sig[0] ^= 1 }},
		{api.ErrTaken, func(h *held) { h.identity = bob.identity }},
		{api.ErrLeaf, func(h *held) { h.o.Size = 0 }},
		{api.ErrLeaf, func(h *held) { h.o.At = h.o.Size }},
		{api.ErrProof, func(h *held) { h.root = rootOf(t, s.d, 7) }},
		{api.ErrProof, func(h *held) { h.path = nil }},
	}
	for i, a := range wrong {
		one := h
		a.change(&one)
		one.must(t, "wrong once", a.e)
		for _, b := range wrong[i+1:] {
			two := h
			b.change(&two)
			a.change(&two)
			two.must(t, "wrong twice", a.e)
		}
		all := gone
		for _, b := range wrong[i:] {
			b.change(&all)
		}
		want := a.e
		if want == api.ErrLeaf || want == api.ErrProof {
			want = api.ErrGone
		}
		all.must(t, "gone, and wrong in all ways from one on", want)
	}
	gone.must(t, "gone", api.ErrGone)
	gone.identity = zero
	gone.must(t, "gone, whichever identity", api.ErrGone)
	h.must(t, "as it was", api.OK)
}

// A listing that is none is told as Check tells it, given that it is the one that was asked for.
func TestHoldOfNoListing(t *testing.T) {
	for _, x := range []struct {
		l api.Listing
		e api.Errno
	}{{ann.line("Ann", 1, 1), api.ErrName}, {ann.line("", 1, 1), api.ErrName}, {ann.line("ann", 5, 1), api.ErrName}, {ann.line("ann", 0, 1), api.ErrName}, {ann.line("ann", math.MinInt, 1), api.ErrName}, {api.Listing{Name: "ann", Device: 1}, api.ErrSigned}, {ann.gone("Ann", 1, 1), api.ErrName}} {
		leaf := leafByWords(x.l)
		h := held{api.Offered{Listing: x.l, Size: 1}, x.l.Name, x.l.Device, ann.identity, leaf, nil}
		h.must(t, "no listing", x.e)
		h.identity = bob.identity
		h.must(t, "no listing, of another one", x.e)
		h.device++
		h.must(t, "no listing, not asked for", api.ErrNobody)
	}
	held{}.must(t, "nothing", api.ErrName)
}

// Names, numbers and identities that are nearly those.
func TestHoldOfOthers(t *testing.T) {
	h := offered(t, many(t), "ann", 1)
	for _, name := range []string{"", "an", "annn", "Ann", "ann ", "anm", "bnn", "ann\x00"} {
		other := h
		other.name = name
		other.must(t, "another name", api.ErrNobody)
	}
	for _, device := range []int{0, -1, 2, 257, 1<<32 + 1, 1<<16 + 1, math.MinInt + 1} {
		other := h
		other.device = device
		other.must(t, "another device", api.ErrNobody)
	}
	for bit := range 256 {
		other := h
		other.identity = turned(h.identity, bit)
		other.must(t, "another identity", api.ErrTaken)
		other = h
		other.root = turned(h.root, bit)
		other.must(t, "another root", api.ErrProof)
	}
	for _, n := range []int{-1, 0, 3, 4, -8, math.MinInt, mostLeaves + 1, 1<<32 + 8, math.MaxInt} {
		other := h
		other.o.Size = n
		other.must(t, "no such size", api.ErrLeaf)
	}
	for _, at := range []int{-1, -4, 8, 9, 1<<32 + 4, math.MaxInt, math.MinInt + 4} {
		other := h
		other.o.At = at
		other.must(t, "no such place", api.ErrLeaf)
	}
	for i := range h.path {
		for bit := range 256 {
			other := h
			other.path = slices.Clone(h.path)
			other.path[i] = turned(other.path[i], bit)
			other.must(t, "another path", api.ErrProof)
		}
		other := h
		other.path = slices.Delete(slices.Clone(h.path), i, i+1)
		other.must(t, "a shorter path", api.ErrProof)
		other.path = slices.Insert(slices.Clone(h.path), i, h.path[i])
		other.must(t, "a longer path", api.ErrProof)
	}
}

// P23.13: of all that can be offered with a directory's own root, each listing at each place with each of its paths, only what stands there is taken.
func TestTold(t *testing.T) {
	listings := []api.Listing{ann.line("ann", 1, 1), ann.line("ann", 1, 2), ann.line("ann", 1, 3), ann.line("ann", 1, 4), ann.line("ann", 1, 5), ann.line("ann", 1, 6)}
	never := []api.Listing{ann.line("ann", 1, 9), bob.line("ann", 1, 1), ann.sign(api.Listing{Name: "ann", Device: 1, Number: 1})}
	for n := 1; n <= len(listings); n++ {
		d, e := prekeys.From(listings[:n])
		if e != api.OK {
			t.Fatal(e)
		}
		root := rootOf(t, d, n)
		for i, l := range append(slices.Clone(listings), never...) {
			for at := range n {
				for of := range n {
					h := held{api.Offered{Listing: l, At: at, Size: n}, "ann", 1, zero, root, pathOf(t, d, of, n)}
					want := api.ErrProof
					if at == of && at == i {
						want = api.OK
					}
					h.must(t, "offered", want)
				}
			}
		}
	}
}

// What was signed in another way stands for another leaf: Hold looks at the signature's bytes too.
func TestHoldOfAnotherSignature(t *testing.T) {
	private := api.Key{5}
	l := signedBy(t, private, api.Listing{Name: "ann", Device: 1, Number: 1})
	s := of(t, l)
	h := offered(t, s, "ann", 1)
	h.must(t, "as it is", api.OK)
	again, e := prekeys.Signed(l, private, make([]byte, 64))
	if e != api.OK || again == l {
		t.Fatal("the same signature")
	}
	h.o.Listing = again
	h.must(t, "signed again", api.ErrProof)
}

func TestBundle(t *testing.T) {
	l := some()
	for _, k := range []api.Key{x, zero, {31: 255}} {
		o := api.Offered{Listing: l, At: 5, Size: 9, Once: k, HasOnce: true}
		if b := prekeys.Bundle(o); b != (api.Bundle{Identity: l.Identity, Signed: l.Signed, Once: k, HasOnce: true}) {
			t.Errorf("Bundle: %v", b)
		}
		o.HasOnce = false // then what stands as the key is nothing
		if b := prekeys.Bundle(o); b != (api.Bundle{Identity: l.Identity, Signed: l.Signed}) {
			t.Errorf("Bundle: %v", b)
		}
	}
	if b := prekeys.Bundle(api.Offered{}); b != (api.Bundle{}) {
		t.Errorf("Bundle of nothing: %v", b)
	}
}
