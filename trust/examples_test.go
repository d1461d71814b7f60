package trust_test

import (
	"bytes"
	"slices"
	"testing"

	"pawl/agree"
	"pawl/api"
	"pawl/trust"
)

// The chapter's examples.

func TestExample1(t *testing.T) {
	s := newBoth(t, own)
	s.must(see("ann", x), api.OK)
	s.must(see("ann", x), api.OK)
	if got := s.b.Events(); !slices.Equal(got, []api.Event{{Kind: api.EvSeen, Name: "ann", Key: x}}) {
		t.Errorf("events: %v", got)
	}
	s.must(see("ann", y), api.ErrChanged)
	if s.b.May("ann", x) || s.b.May("ann", y) {
		t.Error("May, where somebody must decide")
	}
	s.must(see("ann", x), api.ErrChanged)
	s.stands(api.Contact{Name: "ann", Key: x, Next: y, State: api.Changed})
	s.must(accept("ann"), api.OK)
	s.stands(api.Contact{Name: "ann", Key: y, State: api.Seen})
	s.must(accept("ann"), api.ErrCalm)
}

func TestExample2(t *testing.T) {
	s := bothOf(t, own, []api.Event{{Kind: api.EvSeen, Name: "ann", Key: y}})
	s.must(confirm("ann", "00000 00000 00000 00000 00000 00000 00000 00000 00000 00000 00000 00000"), api.ErrSafety)
	s.must(confirm("ann", "00000 .."), api.ErrSafety)
	s.must(confirm("ann", numberOf(own, y)), api.OK)
	s.stands(api.Contact{Name: "ann", Key: y, State: api.Verified})
	s.must(see("ann", z), api.ErrChanged)
	s.stands(api.Contact{Name: "ann", Key: y, Next: z, State: api.Changed})
	s.must(confirm("ann", numberOf(own, y)), api.ErrSafety)
	s.must(confirm("ann", numberOf(own, z)), api.OK)
	s.stands(api.Contact{Name: "ann", Key: z, State: api.Verified})
}

func TestExample3(t *testing.T) {
	s := bothOf(t, own, []api.Event{{Kind: api.EvSeen, Name: "ann", Key: z}, {Kind: api.EvVerified, Name: "ann", Key: z}})
	s.must(block("ann"), api.OK)
	s.stands(api.Contact{Name: "ann", Key: z, State: api.Blocked})
	s.must(see("ann", z), api.ErrBlocked)
	s.must(confirm("ann", numberOf(own, z)), api.ErrBlocked)
	s.must(unblock("ann"), api.OK)
	s.stands(api.Contact{Name: "ann", Key: z, State: api.Seen})
	s.must(forget("ann"), api.OK)
	s.must(see("ann", api.Key{4}), api.OK)
	s.must(see("", x), api.ErrArg)
	s.must(see("Ann", x), api.ErrArg)
	s.must(forget("bob"), api.ErrContact)
}

func TestExample4(t *testing.T) {
	if b, e := trust.Replay(own, []api.Event{{Kind: api.EvAccepted, Name: "ann", Key: x}}); b != nil || e != api.ErrEvent {
		t.Errorf("Replay: %v, %v", b, e)
	}
	for _, k := range []api.Key{own, zero, {31: 255}} {
		if got := trust.New(k).Export(); !bytes.Equal(got, slices.Concat([]byte{0x0a, 0x20}, k[:], []byte{0x12, 0x00})) {
			t.Errorf("Export: %x", got)
		}
	}
}

// A number that was reckoned apart: the words of these tests, Go's own hash and layer 14 agree on it, and so does Confirm.
func TestNumberOfThese(t *testing.T) {
	for _, k := range []api.Key{x, y, z, zero, own, {31: 1}, {8}, {10}, {9, 0, 1}} {
		want, e := agree.Safety(own, k, 100)
		if e != api.OK || want != numberOf(own, k) || want != numberOf(k, own) {
			t.Fatalf("the number of %x: %s, not %s", k, numberOf(own, k), want)
		}
		b := trust.New(own)
		if e := b.See("ann", k); e != api.OK {
			t.Fatal(e)
		}
		if e := b.Confirm("ann", want); e != api.OK {
			t.Errorf("Confirm of %x: %v", k, e)
		}
	}
}
