package envelope_test

import (
	"bytes"
	"encoding/binary"
	"slices"
	"strings"
	"testing"

	"pawl/api"
	"pawl/envelope"
)

// P10.7 and P10.10, and of P10.8 and P2 what is of envelopes as bytes

func misread(t *testing.T, b []byte, at int, why api.Errno) {
	t.Helper()
	e, err := envelope.Parse(b)
	checkFault(t, "Parse", err, &api.Fault{At: at, Why: why})
	if !zero(e) {
		t.Errorf("Parse(%x): %v beside %v", b, e, err)
	}
	checkParse(t, b)
}

// Example 6.
func TestParseExamples(t *testing.T) {
	misread(t, nil, 0, api.ErrSlots)
	misread(t, un("08 03"), 0, api.ErrVersion)
	misread(t, un("08 01"), 2, api.ErrSlots)
	misread(t, un("0a 00"), 0, api.ErrKind)
	misread(t, un("10 01"), 0, api.ErrSlots)
}

// The errors in their order: each one ahead of all that follow.
func TestParseOrder(t *testing.T) {
	nonce, header, body := "12 10"+strings.Repeat("05", 16), "1a 3c"+strings.Repeat("06", 60), "22 50"+strings.Repeat("07", 80)
	for _, x := range []struct {
		b   string
		at  int
		why api.Errno
	}{
		// Layer 7's, wherever they stand, whatever else is wrong.
		{"08", 1, api.ErrCut},
		{"88 00 01", 0, api.ErrNumber},
		{"0b", 0, api.ErrType},
		{"00 00", 0, api.ErrOrder},
		{"10 01 08 01", 2, api.ErrOrder},
		{"10 01 1a 05", 3, api.ErrCut},
		{"0a 00 12 01", 3, api.ErrCut},
		{"08 03 13", 2, api.ErrType},
		{"08 80 00" + nonce + header + body, 1, api.ErrNumber},
		{"08 01" + nonce + header + "22 51" + strings.Repeat("07", 80), 83, api.ErrCut},
		{"08 01" + nonce + header + body + "22 00", 164, api.ErrOrder},
		{"08 01 12 0f" + strings.Repeat("05", 15) + "1a 00 22", 22, api.ErrCut},
		// The first field's number, its type, what it tells.
		{"10 01" + header + body, 0, api.ErrSlots},
		{nonce + header + body, 0, api.ErrSlots},
		{"a2 06 00", 0, api.ErrSlots},
		{"0a 01 01" + nonce + header + body, 0, api.ErrKind},
		{"09 01 00 00 00 00 00 00 00" + nonce + header + body, 0, api.ErrKind},
		{"0d 01 00 00 00" + nonce + header + body, 0, api.ErrKind},
		{"08 00" + nonce + header + body, 0, api.ErrVersion},
		{"08 03" + nonce + header + body, 0, api.ErrVersion},
		{"08 03" + header, 0, api.ErrVersion},
		// Layer 8's, by the version's schema.
		{"08 01" + nonce, 20, api.ErrSlots},
		{"08 01" + nonce + header, 82, api.ErrSlots},
		{"08 01" + header + body, 2, api.ErrSlots},
		{"08 01" + nonce + body, 20, api.ErrSlots},
		{"08 01 10 05" + header + body, 2, api.ErrKind},
		{"08 01" + nonce + "18 00" + body, 20, api.ErrKind},
		{"08 02" + nonce + header + "20 50", 82, api.ErrKind},
		{"08 01" + nonce + header + "25 50 00 00 00", 82, api.ErrKind},
		{"08 01 12 0f" + strings.Repeat("05", 15) + header + body, 2, api.ErrRange},
		{"08 01 12 11" + strings.Repeat("05", 17) + header + body, 2, api.ErrRange},
		{"08 01" + nonce + "1a 3b" + strings.Repeat("06", 59) + body, 20, api.ErrRange},
		{"08 01" + nonce + "1a 3d" + strings.Repeat("06", 61) + body, 20, api.ErrRange},
		{"08 01" + nonce + "1a 2c" + strings.Repeat("06", 44) + body, 20, api.ErrRange},
		{"08 01" + nonce + header + "22 4f" + strings.Repeat("07", 79), 82, api.ErrRange},
		{"08 02" + nonce + header + "22 00", 82, api.ErrRange},
		{"08 01" + nonce + header + body + "28 00", 164, api.ErrSlots},
		{"08 02" + nonce + header + body + "2a 00", 164, api.ErrSlots},
		{"08 01 12 00" + "1a 00" + "22 00", 2, api.ErrRange},
		{"08 01" + nonce + header + "22 51" + strings.Repeat("07", 81) + "28 00", 165, api.ErrSlots},
		// The body's length, behind all of layer 8's.
		{"08 01" + nonce + header + "22 51" + strings.Repeat("07", 81), 82, api.ErrParts},
		{"08 02" + nonce + header + "22 51" + strings.Repeat("07", 81), 82, api.ErrParts},
		{"08 01" + nonce + header + "22 58" + strings.Repeat("07", 88), 82, api.ErrParts},
		{"08 01" + nonce + header + "22 80 01" + strings.Repeat("07", 128), 82, api.ErrParts},
		{"08 02" + nonce + header + "22 98 01" + strings.Repeat("07", 152), 82, api.ErrParts},
	} {
		misread(t, un(x.b), x.at, x.why)
	}
	misread(t, make([]byte, 1<<22+1), 0, api.ErrLong)
	misread(t, append(bytesByWords(newDrawer(420).envelope(1, 80)), make([]byte, 1<<22)...), 0, api.ErrLong)
	for _, b := range []string{"08 01" + nonce + header + body, "08 02" + nonce + header + body, "08 02" + nonce + header + "22 58" + strings.Repeat("07", 88)} {
		if checkParse(t, un(b)) != api.OK {
			t.Errorf("%s is not taken", b)
		}
	}
}

// Every number that is no version, alone and ahead of all that an envelope has; 1 and 2 with a greater number's lowest bits among them.
func TestParseVersions(t *testing.T) {
	d := newDrawer(413)
	numbers := []uint64{0, 1<<8 + 1, 1<<16 + 2, 1<<32 + 1, 1<<32 + 2, 1<<63 + 1, 1<<63 + 2, 1<<64 - 1, 1<<64 - 2, 1<<31 + 1, 1 << 62}
	for n := uint64(3); n < 300; n++ {
		numbers = append(numbers, n)
	}
	for _, n := range numbers {
		first := binary.AppendUvarint([]byte{8}, n)
		misread(t, first, 0, api.ErrVersion)
		misread(t, append(first, bytesByWords(d.envelope(1, 80))[2:]...), 0, api.ErrVersion)
	}
}

// P10.10: the version that stands there is told, and no other; a body of another version's bucket is refused by its place, and one of both versions' stands in either.
func TestParseOtherVersion(t *testing.T) {
	d := newDrawer(414)
	both := 0
	for _, v := range versions {
		for _, bucket := range bucketsByWords(v) {
			if bucket > lastByWords(v) {
				continue
			}
			e := d.envelope(v, bucket+16)
			b := bytesByWords(e)
			got, err := envelope.Parse(b)
			if err != nil || got.Version != v || !same(got, e) {
				t.Fatalf("version %d, a body of %d bytes: version %d, %v", v, bucket+16, got.Version, err)
			}
			b[1] = byte(3 - v)
			got, err = envelope.Parse(b)
			switch {
			case bucket > lastByWords(3-v):
				checkFault(t, "beyond the other version", err, &api.Fault{At: 82, Why: api.ErrRange})
			case bucket&(bucket-1) == 0:
				both++
				e.Version = 3 - v
				if err != nil || !same(got, e) {
					t.Errorf("a body of %d bytes in version %d: %v, %v", bucket+16, 3-v, got.Version, err)
				}
			default:
				checkFault(t, "a bucket of the other version", err, &api.Fault{At: 82, Why: api.ErrParts})
			}
		}
	}
	if both != 2*15 { // 64, 128, .., 2^20
		t.Errorf("%d bodies stand in either version", both)
	}
}

// Bodies of every length up to some hundred, and about the ends of each version, as bytes: in or out of the schema's bounds, a bucket's or not.
func TestParseBodies(t *testing.T) {
	d := newDrawer(415)
	seen := map[api.Errno]int{}
	sizes := []int{1 << 20, 1<<20 + 16, 1179663, 1179664, 1179665, 1310736, 2097167, 2097168, 2097169, 1<<22 - 90, 1<<22 - 80}
	for n := range 600 {
		sizes = append(sizes, n)
	}
	for _, n := range sizes {
		for _, v := range versions {
			why := checkParse(t, bytesByWords(d.envelope(v, n)))
			seen[why]++
			if (why == api.OK) != boxByWords(v, n) {
				t.Errorf("version %d, a body of %d bytes: %v", v, n, why)
			}
		}
	}
	for _, why := range []api.Errno{api.OK, api.ErrRange, api.ErrParts, api.ErrLong} {
		if seen[why] == 0 {
			t.Errorf("%v did not come", why)
		}
	}
}

// An envelope of each version and of one and two bytes of length: each byte changed, cut at each place, something behind it. What a field holds gives another envelope; the version's number the other version's; all else a fault.
func TestParseSpoiled(t *testing.T) {
	d := newDrawer(416)
	for _, x := range []struct{ version, box, bodyFrom int }{{1, 80, 84}, {2, 80, 84}, {2, 88, 84}, {1, 144, 85}, {2, 160, 85}} {
		b := bytesByWords(d.envelope(x.version, x.box))
		for at := range b {
			holds := at >= 4 && at < 20 || at >= 22 && at < 82 || at >= x.bodyFrom
			for value := range 256 {
				if at > x.bodyFrom+3 && value%51 > 0 {
					continue
				}
				other := slices.Clone(b)
				other[at] = byte(value)
				asOther := at == 1 && value == 3-x.version && boxByWords(value, x.box)
				if e := checkParse(t, other); (e == api.OK) != (holds || asOther || bytes.Equal(other, b)) {
					t.Errorf("version %d, %02x at %d: %v", x.version, value, at, e)
				}
			}
			if checkParse(t, b[:at]) == api.OK {
				t.Errorf("version %d, cut at %d: it is taken", x.version, at)
			}
		}
		for value := range 256 {
			for _, behind := range [][]byte{{byte(value)}, {byte(value), 0}, {byte(value), 1, 7, 7, 7}} {
				if checkParse(t, append(slices.Clone(b), behind...)) == api.OK {
					t.Errorf("version %d, with %x behind it: it is taken", x.version, behind)
				}
			}
		}
	}
}

// Where each cut is told: of the fields' heads and values, by hand.
func TestParseCuts(t *testing.T) {
	b := bytesByWords(newDrawer(417).envelope(2, 160))
	for at := range b {
		want := api.Fault{At: 0, Why: api.ErrSlots}
		switch {
		case at == 0:
		case at < 2:
			want = api.Fault{At: 1, Why: api.ErrCut}
		case at == 2, at == 20, at == 82:
			want = api.Fault{At: at, Why: api.ErrSlots}
		case at < 20:
			want = api.Fault{At: 3, Why: api.ErrCut}
		case at < 82:
			want = api.Fault{At: 21, Why: api.ErrCut}
		default:
			want = api.Fault{At: 83, Why: api.ErrCut}
		}
		misread(t, b[:at], want.At, want.Why)
	}
}

// All lists of up to two bytes, and of two behind a version.
func TestParseOfAllShort(t *testing.T) {
	for a := range 256 {
		checkParse(t, []byte{byte(a)})
		for b := range 256 {
			checkParse(t, []byte{byte(a), byte(b)})
			checkParse(t, []byte{8, 1, byte(a), byte(b)})
			checkParse(t, []byte{8, 2, byte(a), byte(b)})
		}
	}
}

// Drawn bytes, and drawn envelopes spoiled once and twice, or with fields of other numbers, types and lengths.
func TestParseOfDrawn(t *testing.T) {
	d := newDrawer(418)
	seen := map[api.Errno]int{}
	for range 6000 {
		b := make([]byte, d.Intn(200))
		d.Read(b)
		checkParse(t, b)
		v := 1 + d.Intn(2)
		b = bytesByWords(d.envelope(v, d.box(v)))
		once := d.spoil(b, 0, 2, 20, 82)
		seen[checkParse(t, once)]++
		seen[checkParse(t, d.spoil(once, 0, 2, 20, 82))]++
		seen[checkParse(t, d.fields())]++
	}
	for _, why := range []api.Errno{api.OK, api.ErrNumber, api.ErrOrder, api.ErrType, api.ErrCut, api.ErrSlots, api.ErrKind, api.ErrRange, api.ErrVersion, api.ErrParts} {
		if seen[why] < 20 {
			t.Errorf("%v came %d times", why, seen[why])
		}
	}
}

// fields are such as an envelope has, of which one or two may be of another number, type or length, or not there.
func (d drawer) fields() []byte {
	var out []byte
	odd := func() bool { return d.Intn(8) == 0 }
	for no, size := range []int{0, 0, 16, 60, d.box(1 + d.Intn(2))} {
		if no == 0 || odd() && odd() {
			continue
		}
		if odd() {
			size += d.Intn(3) - 1
		}
		if (no == 1) != odd() {
			out = binary.AppendUvarint(append(out, byte(no<<3)), uint64(d.Intn(4)))
			continue
		}
		size = max(size, 0)
		out = binary.AppendUvarint(append(out, byte(no<<3|2)), uint64(size))
		out = append(out, d.bytes(size)...)
	}
	return out
}
