package wire_test

import (
	"bytes"
	"iter"
	"math/rand"
	"slices"
	"testing"

	"pawl/api"
	"pawl/wire"
)

// P7.5 and P7.11. That Fields gives just what the words give, checkDecode holds too, in all the tests of Decode.

func TestFieldsStoppedAtEach(t *testing.T) {
	r := rand.New(rand.NewSource(221))
	for _, count := range []int{1, 2, 3, 7, mostFields} {
		b := encoded(t, drawnFields(r, count))
		all, _, _ := decodeByWords(b)
		through := wire.Fields(b)
		for stop := range count {
			seen := 0
			for at, f := range through {
				if at != all[seen].at || !sameField(f, all[seen].f) {
					t.Errorf("Fields(%x): as the %dth %v at %d", b, seen, f, at)
				}
				if seen == stop {
					break
				}
				seen++
			}
			if seen != stop {
				t.Errorf("stopped at the %dth of %d, not the %dth", seen, count, stop)
			}
		}
	}
}

// Called by hand: behind a no there is no further call.
func TestFieldsHeedsTheStop(t *testing.T) {
	b := un("080110011801")
	for stop := 1; stop <= 4; stop++ {
		calls := 0
		wire.Fields(b)(func(int, api.Field) bool {
			calls++
			return calls < stop
		})
		if want := min(stop, 3); calls != want {
			t.Errorf("told to stop at the %dth: %d calls", stop, calls)
		}
	}
}

func TestFieldsGoneThroughAgain(t *testing.T) {
	r := rand.New(rand.NewSource(222))
	b := encoded(t, drawnFields(r, 9))
	all, _, _ := decodeByWords(b)
	through := wire.Fields(b)
	for range 3 {
		i := 0
		for at, f := range through {
			if at != all[i].at || !sameField(f, all[i].f) {
				t.Errorf("as the %dth %v at %d", i, f, at)
			}
			i++
		}
		if i != 9 {
			t.Errorf("%d fields", i)
		}
	}
	// Two goings at once, one within the other.
	outer := 0
	for range through {
		inner := 0
		for at, f := range through {
			if at != all[inner].at || !sameField(f, all[inner].f) {
				t.Errorf("within: as the %dth %v at %d", inner, f, at)
			}
			inner++
		}
		if inner != 9 {
			t.Errorf("%d fields within", inner)
		}
		outer++
	}
	if outer != 9 {
		t.Errorf("%d fields without", outer)
	}
}

// What changes ahead of the going is seen, what changes during it is not.
func TestFieldsAreAsTheyWereWhenTheGoingBegan(t *testing.T) {
	b := un("08011a02616220032802")
	through := wire.Fields(b)
	copy(b, un("0a0000000000000000"))
	checkPlaces(t, "behind a change that spoils it", through, 0)
	copy(b, un("08021a02636420042802"))
	want := [][]byte{un("0802"), un("1a026364"), un("2004"), un("2802")}
	i := 0
	for at, f := range through {
		clear(b)
		if i >= len(want) || !bytes.Equal(encodeByWords([]api.Field{f}), want[i]) {
			t.Fatalf("as the %dth %v at %d", i, f, at)
		}
		fill(f.Data[:cap(f.Data)])
		fill(b)
		i++
	}
	if i != len(want) {
		t.Errorf("%d fields, not %d", i, len(want))
	}
	checkPlaces(t, "behind the change", through)
	copy(b, un("08011a02616220032802"))
	checkPlaces(t, "changed back", through, 0, 2, 6, 8)
}

// checkPlaces holds where the fields begin.
func checkPlaces(t *testing.T, what string, through iter.Seq2[int, api.Field], want ...int) {
	t.Helper()
	var places []int
	for at := range through {
		places = append(places, at)
	}
	if !slices.Equal(places, want) {
		t.Errorf("%s: fields at %v, not %v", what, places, want)
	}
}

func TestFieldsUpToTheFault(t *testing.T) {
	for _, c := range []struct {
		b    string
		want []int
	}{
		{"", nil},
		{"0b", nil},
		{"80", nil},
		{"0896011a0261620b", []int{0, 3}},
		{"0896011a026162", []int{0, 3}},
		{"0896011a0361", []int{0}},
		{"0896010801", []int{0}},
		{"08960110", []int{0}},
		{"089601158080", []int{0}},
		{"0801118080808080808080", []int{0, 2}},
		{"08011180808080808080", []int{0}},
		{"0800100018002000" + "8000", []int{0, 2, 4, 6}},
	} {
		checkPlaces(t, c.b, wire.Fields(un(c.b)), c.want...)
	}
	checkPlaces(t, "nil", wire.Fields(nil))
}

func TestFieldsOfTooMany(t *testing.T) {
	r := rand.New(rand.NewSource(223))
	l := drawnFields(r, mostFields+5)
	all, _, e := decodeByWords(encodeByWords(l))
	if e != api.ErrLong || len(all) != mostFields {
		t.Fatal(len(all), e)
	}
	checkThrough(t, encodeByWords(l), all)
	checkThrough(t, encodeByWords(l[:mostFields]), all)
	// More than MaxWire bytes: none, be the first fields right.
	long := append(encodeByWords(l[:3]), make([]byte, mostBytes)...)
	checkPlaces(t, "too many bytes", wire.Fields(long))
	checkThrough(t, long[:mostBytes], all[:3])
}

// What stands whole ahead of a fault is a message too.
func TestWhatStandsAheadOfAFaultIsAMessage(t *testing.T) {
	r := rand.New(rand.NewSource(224))
	for range 3000 {
		b := encoded(t, drawnFields(r, 1+r.Intn(6)))
		b[r.Intn(len(b))] ^= byte(1 + r.Intn(255))
		var l []api.Field
		end := 0
		for at, f := range wire.Fields(b) {
			if at != end {
				t.Errorf("Fields(%x): a field at %d, not at %d", b, at, end)
			}
			l = append(l, f)
			end = at + len(encodeByWords([]api.Field{f}))
		}
		if got := encoded(t, l); !bytes.Equal(got, b[:end]) {
			t.Errorf("Fields(%x) are encoded to %x", b, got)
		}
		got, at, e := wire.Decode(b[:end])
		if !sameFields(got, l) || at != 0 || e != api.OK {
			t.Errorf("Decode(%x): %v, %d, %v, not %v", b[:end], got, at, e, l)
		}
		if got, _, e := wire.Decode(b); e == api.OK && (!sameFields(got, l) || end != len(b)) {
			t.Errorf("Decode(%x): %v, but Fields gives %v", b, got, l)
		}
	}
}
