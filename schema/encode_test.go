package schema_test

import (
	"bytes"
	"math"
	"testing"

	"pawl/api"
)

// P8.5. That Encode answers what Check answers, and else the bytes by the words, checkValue holds too, in all the tests of Check.

// Examples 1 and 2.
func TestEncodeExamples(t *testing.T) {
	c := compiled(t, example())
	for _, e := range []struct {
		v    api.Value
		want string
	}{
		{parts(num(1), data(""), parts()), "080112002a00"},
		{parts(num(300), data("ab"), parts(parts(num(1)))), "08ac02120261622a03020801"},
	} {
		if b, err := c.Encode(e.v); err != nil || !bytes.Equal(b, un(e.want)) {
			t.Errorf("Encode(%v): %x, %v, not %s", e.v, b, err, e.want)
		}
	}
}

// The bytes of each kind, worked by hand.
func TestEncodeOfEachKind(t *testing.T) {
	for _, c := range []struct {
		s    api.Slot
		v    api.Value
		want string
	}{
		{slot(api.KNum, 0, math.MaxUint64), num(0), "0800"},
		{slot(api.KNum, 0, math.MaxUint64), num(math.MaxUint64), "08ffffffffffffffffff01"},
		{slot(api.KFixed32, 0, 1<<32-1), num(0x01020304), "0d04030201"},
		{slot(api.KFixed64, 0, math.MaxUint64), num(0x0102030405060708), "090807060504030201"},
		{slot(api.KFlag, 0, 0), num(0), "0800"},
		{slot(api.KFlag, 0, 0), num(1), "0801"},
		{slot(api.KBytes, 0, 9), data(""), "0a00"},
		{slot(api.KBytes, 0, 9), data("\xff\x00"), "0a02ff00"},
		{slot(api.KText, 0, 9), data("é"), "0a02c3a9"},
		{slot(api.KFloat, 0, 9), float(1), "09000000000000f03f"},
		{slot(api.KFloat, 0, 9), float(-1.5), "09000000000000f8bf"},
		{sub(), parts(), "0a00"},
		{sub(flags(2)...), parts(num(1), num(0)), "0a0408011000"},
		{list(0, 3), parts(), "0a00"},
		{list(0, 3), parts(parts(), parts()), "0a020000"},
		{list(0, 3, flags(1)...), parts(parts(num(1)), parts(num(0))), "0a06020801020800"},
		{sub(sub(sub())), parts(parts(parts())), "0a040a020a00"},
	} {
		s := []api.Slot{c.s}
		cdc := compiled(t, s)
		if b, err := cdc.Encode(parts(c.v)); err != nil || !bytes.Equal(b, un(c.want)) {
			t.Errorf("Encode(%v): %x, %v, not %s", c.v, b, err, c.want)
		}
		if v, err := cdc.Decode(un(c.want)); err != nil || !same(v, parts(c.v)) {
			t.Errorf("Decode(%s): %v, %v, not %v", c.want, v, err, c.v)
		}
	}
	far := []api.Slot{{No: 16, Kind: api.KFlag}, {No: mostNo, Kind: api.KFixed32, Most: 1}}
	if b, err := compiled(t, far).Encode(parts(num(1), num(1))); err != nil || !bytes.Equal(b, un("800101fdffffff0f01000000")) {
		t.Errorf("far numbers: %x, %v", b, err)
	}
	if b, err := compiled(t, nil).Encode(api.Value{}); err != nil || len(b) != 0 {
		t.Errorf("no slots: %x, %v", b, err)
	}
}

// P8.7

func TestWhatIsEncodedIsReadBack(t *testing.T) {
	d := newDrawer(281)
	for range 3000 {
		s := d.schema()
		c := compiled(t, s)
		for _, v := range []api.Value{d.message(s), d.message(s), shortest(s), longest(s)} {
			b, err := c.Encode(v)
			if err != nil {
				t.Fatalf("Encode(%v) of %v: %v", v, s, err)
			}
			if got, err := c.Decode(b); err != nil || !same(got, v) {
				t.Errorf("Decode(Encode(%v)) of %v: %v, %v", v, s, got, err)
			}
		}
	}
}

func TestWhatIsReadIsEncodedToTheSame(t *testing.T) {
	d := newDrawer(282)
	taken := 0
	for range 3000 {
		s := d.schema()
		c := compiled(t, s)
		for range 8 {
			b := bytesByWords(s, d.message(s))
			if len(b) > 0 {
				b[d.Intn(len(b))] ^= 1 << d.Intn(8)
			}
			v, err := c.Decode(b)
			if err != nil {
				continue
			}
			taken++
			if again, err := c.Encode(v); err != nil || !bytes.Equal(again, b) {
				t.Errorf("Encode(Decode(%x)) of %v: %x, %v", b, s, again, err)
			}
		}
	}
	if taken < 2000 {
		t.Errorf("only %d were taken", taken)
	}
}

// Of all short lists of bytes just those are taken that messages have, each message one.
func TestEachMessageHasOneForm(t *testing.T) {
	for _, c := range []struct {
		s        []api.Slot
		messages int
	}{
		{row(slot(api.KNum, 1, 3)), 3},
		{row(slot(api.KFlag, 0, 0), slot(api.KNum, 0, 2)), 6},
		{row(slot(api.KBytes, 0, 2)), 1 + 9 + 81},
		{row(slot(api.KText, 1, 2)), 8 + 64},
		{row(sub(flags(1)...)), 2},
		{row(list(0, 3)), 4},
		{row(list(1, 1, flags(1)...)), 2},
		{row(sub(sub())), 1},
		{row(sub(), sub()), 1},
	} {
		cdc := compiled(t, c.s)
		seen := map[string]int{}
		through([]byte{0, 1, 2, 3, 8, 10, 16, 18, 0x80}, 5, func(b []byte) {
			v, err := cdc.Decode(b)
			if err != nil {
				return
			}
			again, err := cdc.Encode(v)
			if err != nil || !bytes.Equal(again, b) {
				t.Errorf("Encode(Decode(%x)): %x, %v", b, again, err)
			}
			seen[string(bytesByWords(c.s, v))]++
		})
		for b, n := range seen {
			if n != 1 {
				t.Errorf("%d forms of %x", n, b)
			}
		}
		if want := c.messages; len(seen) != want {
			t.Errorf("%d messages of %v, not %d", len(seen), c.s, want)
		}
	}
}
