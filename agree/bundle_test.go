package agree_test

import (
	"bytes"
	"errors"
	"slices"
	"strings"
	"testing"

	"pawl/agree"
	"pawl/api"
)

// P14.1, P14.2, P14.8

// checkFault holds an error against a fault, nil against nil.
func checkFault(t *testing.T, what string, err error, want *api.Fault) {
	t.Helper()
	if want == nil {
		if err != nil {
			t.Fatalf("%s: %v, not nil", what, err)
		}
		return
	}
	f, ok := err.(*api.Fault)
	if !ok || f == nil || *f != *want || !errors.Is(err, want.Why) {
		t.Fatalf("%s: %v, not %v", what, err, want)
	}
}

// checkParse holds Parse against the words, and what it takes against Pack; it answers the reason why b is refused.
func checkParse(t *testing.T, b []byte) api.Errno {
	t.Helper()
	want, f := parseByWords(t, b)
	got, err := agree.Parse(b)
	checkFault(t, "Parse", err, f)
	if got != want {
		t.Fatalf("Parse(%x): %v, not %v", b, got, want)
	}
	if f != nil {
		return f.Why
	}
	if again := agree.Pack(got); !bytes.Equal(again, b) || len(b) != 104 {
		t.Fatalf("Pack of what Parse(%x) answers: %x", b, again)
	}
	return api.OK
}

// misread: b is refused, at that place.
func misread(t *testing.T, b []byte, at int, why api.Errno) {
	t.Helper()
	got, err := agree.Parse(b)
	checkFault(t, "Parse", err, &api.Fault{At: at, Why: why})
	if got != (api.Bundle{}) {
		t.Errorf("Parse(%x): %v beside %v", b, got, err)
	}
	checkParse(t, b)
}

func TestOffer(t *testing.T) {
	d := newDrawer(800)
	for range 300 {
		identity, signed, once := d.either(), d.either(), d.odd()
		with, without := agree.Offer(identity, signed, once, true), agree.Offer(identity, signed, once, false)
		if with != (api.Bundle{Identity: identity.Public, Signed: signed.Public, Once: once.Public, HasOnce: true}) {
			t.Fatalf("Offer with a key for once: %v", with)
		}
		if without != (api.Bundle{Identity: identity.Public, Signed: signed.Public}) {
			t.Fatalf("Offer without: %v", without)
		}
	}
}

// Keys are offered as they are handed in, those too that no key can be, and the zero key for once with its flag.
func TestOfferOfAnything(t *testing.T) {
	for i, k := range append(weak(), repeated(0xff), counted(1)) {
		p := api.Pair{Private: counted(byte(i)), Public: k}
		if b := agree.Offer(p, p, p, true); b != (api.Bundle{Identity: k, Signed: k, Once: k, HasOnce: true}) {
			t.Errorf("Offer: %v", b)
		}
		if b := agree.Offer(p, p, p, false); b != (api.Bundle{Identity: k, Signed: k}) {
			t.Errorf("Offer: %v", b)
		}
	}
	if b := agree.Offer(api.Pair{}, api.Pair{}, api.Pair{}, false); b != (api.Bundle{}) {
		t.Errorf("Offer of nothing: %v", b)
	}
}

// Example 1.
func TestBundleExamples(t *testing.T) {
	b := api.Bundle{Identity: counted(1), Signed: repeated(7)}
	want := slices.Concat(un("0a 20"), b.Identity[:], un("12 20"), b.Signed[:], un("18 00 22 20"), make([]byte, 32))
	got := agree.Pack(b)
	if !bytes.Equal(got, want) || len(got) != 104 {
		t.Fatalf("Pack: %x", got)
	}
	misread(t, append(slices.Clone(want[:103]), 1), 70, api.ErrBundle)
	other := slices.Clone(want)
	other[69] = 2
	misread(t, other, 68, api.ErrRange)
	misread(t, want[:103], 71, api.ErrCut)
	if back, err := agree.Parse(want); err != nil || back != b {
		t.Errorf("Parse: %v, %v", back, err)
	}
}

// Bundles that can be, there and back: drawn, and of keys at the ends, the zero key for once beside its flag among them.
func TestThereAndBack(t *testing.T) {
	hold := func(b api.Bundle) {
		t.Helper()
		got := agree.Pack(b)
		if !bytes.Equal(got, packByWords(b)) || len(got) != 104 {
			t.Fatalf("Pack(%v): %x", b, got)
		}
		if back, err := agree.Parse(got); err != nil || back != b {
			t.Fatalf("Parse(%x): %v, %v, not %v", got, back, err, b)
		}
		checkParse(t, got)
	}
	d := newDrawer(801)
	for range 500 {
		hold(d.bundle(true))
		hold(d.bundle(false))
	}
	for _, k := range append(weak(), repeated(0xff), repeated(1)) {
		hold(api.Bundle{Identity: k, Signed: d.key()})
		hold(api.Bundle{Identity: d.key(), Signed: k})
		hold(api.Bundle{Identity: d.key(), Signed: d.key(), Once: k, HasOnce: true})
	}
	hold(api.Bundle{})
	hold(api.Bundle{HasOnce: true})
}

// Of a bundle that can't be, Pack takes the key for once as the zero key.
func TestPackOfWhatCantBe(t *testing.T) {
	d := newDrawer(802)
	for bit := range 256 {
		b := d.bundle(false)
		want := agree.Pack(b)
		bad := b
		bad.Once[bit/8] = 1 << (bit % 8)
		got := agree.Pack(bad)
		if !bytes.Equal(got, want) || !bytes.Equal(got, packByWords(b)) {
			t.Fatalf("Pack(%v): %x", bad, got)
		}
		if back, err := agree.Parse(got); err != nil || back != b {
			t.Fatalf("Parse of it: %v, %v", back, err)
		}
	}
}

// A key for once beside the flag 0, whichever of its bits is set; beside the flag 1 it is a bundle.
func TestParseOnceAndFlag(t *testing.T) {
	d := newDrawer(803)
	for bit := range 256 {
		b := packByWords(d.bundle(false))
		b[72+bit/8] = 1 << (bit % 8)
		misread(t, b, 70, api.ErrBundle)
		b[69] = 1
		if got, err := agree.Parse(b); err != nil || !got.HasOnce || got.Once[bit/8] != 1<<(bit%8) {
			t.Fatalf("with the flag 1: %v, %v", got, err)
		}
		checkParse(t, b)
	}
	b := packByWords(d.bundle(true))
	b[69] = 0
	misread(t, b, 70, api.ErrBundle)
	b[69] = 2
	misread(t, b, 68, api.ErrRange)
	b[69] = 0x7f
	misread(t, b, 68, api.ErrRange)
}

// Cut at each place, with the places as the chapters' words give them.
func TestParseCut(t *testing.T) {
	b := packByWords(newDrawer(804).bundle(true))
	for n := range b {
		switch {
		case n == 0, n == 34, n == 68, n == 70:
			misread(t, b[:n], n, api.ErrSlots)
		case n < 34:
			misread(t, b[:n], 1, api.ErrCut)
		case n < 68:
			misread(t, b[:n], 35, api.ErrCut)
		case n == 69:
			misread(t, b[:n], 69, api.ErrCut)
		default:
			misread(t, b[:n], 71, api.ErrCut)
		}
	}
	misread(t, nil, 0, api.ErrSlots)
}

// Each byte changed to each other one: what a field holds gives another bundle, all else a fault.
func TestParseSpoiled(t *testing.T) {
	for _, hasOnce := range []bool{true, false} {
		b := packByWords(newDrawer(805).bundle(hasOnce))
		for at := range b {
			key := at >= 2 && at < 34 || at >= 36 && at < 68 || at >= 72
			for x := range 256 {
				other := slices.Clone(b)
				other[at] = byte(x)
				why := checkParse(t, other)
				taken := key && (hasOnce || at < 72) || bytes.Equal(other, b) || at == 69 && x == 1
				if (why == api.OK) != taken {
					t.Fatalf("%02x at %d: %v", x, at, why)
				}
				if key && !taken && why != api.ErrBundle {
					t.Fatalf("%02x at %d: %v", x, at, why)
				}
			}
		}
		for x := range 256 {
			for _, behind := range [][]byte{{byte(x)}, {byte(x), 0}, {byte(x), 1, 0, 0, 0}} {
				if checkParse(t, slices.Concat(b, behind)) == api.OK {
					t.Fatalf("with %x behind it it is taken", behind)
				}
			}
		}
	}
}

// Faults of each kind, with their places as the chapters' words give them.
func TestParseFaults(t *testing.T) {
	key := "20" + strings.Repeat("07", 32)
	one, two, four := "0a"+key, "12"+key, "22"+key
	zero := "2220" + strings.Repeat("00", 32)
	for _, x := range []struct {
		b   string
		at  int
		why api.Errno
	}{
		{one + two + "1800" + four, 70, api.ErrBundle},
		{one + two + "1800" + four + "2800", 104, api.ErrSlots}, // the fault that chapter 8 finds comes first
		{one + two + "1800" + four + "00", 104, api.ErrOrder},
		{one + two + "1801" + four + "2800", 104, api.ErrSlots},
		{one + two + "1801" + four + "2200", 104, api.ErrOrder},
		{one + two + "1801" + four + "2b", 104, api.ErrType},
		{one + two + "1801" + four + "28", 105, api.ErrCut},
		{one + two + "1802" + four, 68, api.ErrRange},
		{one + two + "1802" + zero, 68, api.ErrRange},
		{one + two + "188100" + four, 69, api.ErrNumber},
		{one + two + "18ffffffffffffffffff01" + four, 68, api.ErrRange},
		{one + two + "18ffffffffffffffffff02" + four, 69, api.ErrNumber},
		{one + two + "188002" + four, 68, api.ErrRange}, // 256: a flag of more bits than a byte
		{one + two + "1d01000000" + four, 68, api.ErrKind},
		{one + two + "1a0101" + four, 68, api.ErrKind},
		{one + two + four, 68, api.ErrSlots},
		{one + two + "1801" + "2001", 70, api.ErrKind},
		{one + two + "1801" + "2a" + key, 70, api.ErrSlots},
		{one + two + "1801" + "221f" + strings.Repeat("07", 31), 70, api.ErrRange},
		{one + two + "1801" + "2221" + strings.Repeat("07", 33), 70, api.ErrRange},
		{one + two + "1800" + "2200", 70, api.ErrRange},
		{one + two + "1800" + "221f" + strings.Repeat("00", 31), 70, api.ErrRange},
		{one + two + "1800" + "22a000" + strings.Repeat("00", 32), 71, api.ErrNumber},
		{one + two + "1800", 70, api.ErrSlots},
		{one + "1801" + four, 34, api.ErrSlots},
		{one + "1001" + "1801" + four, 34, api.ErrKind},
		{one + "121f" + strings.Repeat("07", 31) + "1801" + four, 34, api.ErrRange},
		{one + one + "1801" + four, 34, api.ErrOrder},
		{two + one + "1801" + four, 34, api.ErrOrder},
		{two + "1801" + four, 0, api.ErrSlots},
		{"0801" + two + "1801" + four, 0, api.ErrKind},
		{"0a00" + two + "1801" + four, 0, api.ErrRange},
		{"0a21" + strings.Repeat("07", 33) + two + "1801" + four, 0, api.ErrRange},
		{"8a00" + key + two + "1801" + four, 0, api.ErrNumber},
		{"0b", 0, api.ErrType},
		{"00", 0, api.ErrOrder},
	} {
		misread(t, un(x.b), x.at, x.why)
	}
	misread(t, make([]byte, 1<<22+1), 0, api.ErrLong)
}

// Bundles' bytes with drawn changes, several of them at once, and drawn bytes.
func TestParseDrawn(t *testing.T) {
	d := newDrawer(806)
	heads := []int{0, 1, 34, 35, 68, 69, 70, 71}
	taken := 0
	for range 20000 {
		b := packByWords(d.bundle(d.Intn(2) == 0))
		for range 1 + d.Intn(3) {
			at := d.Intn(len(b))
			if d.Intn(3) > 0 {
				at = min(heads[d.Intn(len(heads))], len(b)-1)
			}
			switch d.Intn(8) {
			case 0:
				b[at] = byte(d.Intn(256))
			case 1:
				b[at] += byte(d.Intn(3) - 1)
			case 2:
				b[at] ^= 1 << d.Intn(8)
			case 3:
				b = slices.Delete(b, at, at+1)
			case 4:
				b = slices.Insert(b, at, byte(d.Intn(256)))
			case 5:
				b = append(b, byte(d.Intn(256)), byte(d.Intn(256)))
			case 6:
				b[min(69, len(b)-1)] = byte(d.Intn(3))
			case 7:
				clear(b[min(72, len(b)):])
			}
		}
		if checkParse(t, b) == api.OK {
			taken++
		}
	}
	if taken < 1000 {
		t.Errorf("only %d of all were bundles", taken)
	}
	for range 5000 {
		b := make([]byte, d.Intn(120))
		d.Read(b)
		checkParse(t, b)
	}
}
