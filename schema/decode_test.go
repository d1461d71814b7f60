package schema_test

import (
	"encoding/binary"
	"slices"
	"testing"

	"pawl/api"
)

// misread holds what Decode answers, and that against the words.
func misread(t *testing.T, s []api.Slot, b string, at int, why api.Errno) {
	t.Helper()
	c := compiled(t, s)
	_, err := c.Decode(un(b))
	checkFault(t, b, err, &api.Fault{At: at, Why: why})
	checkDecode(t, c, s, un(b))
}

// P8.6

// Example 4.
func TestDecodeExamples(t *testing.T) {
	s := example()
	misread(t, s, "08011200", 4, api.ErrSlots)
	misread(t, s, "080118002a00", 2, api.ErrSlots)
	misread(t, s, "080110002a00", 2, api.ErrKind)
	misread(t, s, "080012002a00", 0, api.ErrRange)
	misread(t, s, "080112002a03020802", 7, api.ErrRange)
	misread(t, s, "080112002a020000", 7, api.ErrSlots)
	misread(t, s, "080112002a003000", 6, api.ErrSlots)
	misread(t, s, "0801120561", 3, api.ErrCut)
	v, err := compiled(t, s).Decode(un("08ac02120261622a03020801"))
	if err != nil || !same(v, parts(num(300), data("ab"), parts(parts(num(1))))) {
		t.Errorf("Decode: %v, %v", v, err)
	}
}

// Example 7.
func TestDecodeOfNoSlots(t *testing.T) {
	for _, s := range [][]api.Slot{nil, {}} {
		c := compiled(t, s)
		for _, b := range [][]byte{nil, {}} {
			if v, err := c.Decode(b); err != nil || !same(v, api.Value{}) {
				t.Errorf("Decode of no bytes: %v, %v", v, err)
			}
		}
		misread(t, s, "0801", 0, api.ErrSlots)
		misread(t, s, "0a00", 0, api.ErrSlots)
		misread(t, s, "08", 1, api.ErrCut)
		misread(t, s, "0b", 0, api.ErrType)
	}
}

// What layer 7 finds in a message comes ahead of its slots.
func TestDecodeErrorsOfTheWire(t *testing.T) {
	s := row(slot(api.KNum, 5, 9), slot(api.KFlag, 0, 0))
	for _, c := range []struct {
		b   string
		at  int
		why api.Errno
	}{
		{"0800" + "1080", 3, api.ErrCut},
		{"0800" + "108000", 3, api.ErrNumber},
		{"0800" + "0801", 2, api.ErrOrder},
		{"0800" + "13", 2, api.ErrType},
		{"0800" + "1203", 3, api.ErrCut},
		{"1001" + "0805", 2, api.ErrOrder},
		{"0a00" + "10", 3, api.ErrCut},
		{"8800", 0, api.ErrNumber},
		{"00", 0, api.ErrOrder},
		{"80808080808080808002", 0, api.ErrNumber},
		{"0805" + "1001" + "1801" + "ff", 6, api.ErrCut},
		{"0805" + "1001" + "1500", 4, api.ErrOrder},
		{"0805" + "1001" + "1d000000", 5, api.ErrCut},
		{"0805" + "1001" + "1900000000000000", 5, api.ErrCut},
	} {
		misread(t, s, c.b, c.at, c.why)
		// Within another message the slots ahead are asked first, and the places go on from there.
		in := length(un(c.b))
		misread(t, row(sub(s...)), hexOf("0a", in), c.at+2, c.why)
		misread(t, row(slot(api.KFlag, 0, 0), sub(s...)), hexOf("080112", in), c.at+4, c.why)
		misread(t, row(slot(api.KFlag, 0, 0), sub(s...)), hexOf("080212", in), 0, api.ErrRange)
		misread(t, row(list(0, 2, s...)), hexOf("0a", length(in)), c.at+3, c.why)
		item := append(un("0408051001"), in...)
		misread(t, row(list(0, 2, s...)), hexOf("0a", length(item)), c.at+8, c.why)
	}
}

// length is b behind the number of its bytes.
func length(b []byte) []byte {
	return append(binary.AppendUvarint(nil, uint64(len(b))), b...)
}

func hexOf(head string, b []byte) string {
	const digit = "0123456789abcdef"
	out := []byte(head)
	for _, x := range b {
		out = append(out, digit[x>>4], digit[x&15])
	}
	return string(out)
}

// More than 64 fields: layer 7's ErrLong, at the 65th.
func TestDecodeOfTooManyFields(t *testing.T) {
	s := flags(16)
	var b []byte
	for no := 1; no <= 65; no++ {
		if no == 65 {
			checkDecode(t, compiled(t, s), s, b)
			_, err := compiled(t, s).Decode(b)
			checkFault(t, "64 fields", err, &api.Fault{At: 33, Why: api.ErrSlots})
		}
		b = append(binary.AppendUvarint(b, uint64(no)*8), 0)
	}
	_, err := compiled(t, s).Decode(b)
	checkFault(t, "65 fields", err, &api.Fault{At: 15*2 + 49*3, Why: api.ErrLong})
	checkDecode(t, compiled(t, s), s, b)
}

// Fields that are missing, of another number, of another type, or too many.
func TestDecodeErrorsOfTheSlots(t *testing.T) {
	s := []api.Slot{{No: 2, Kind: api.KNum, Most: 9}, {No: 4, Kind: api.KFixed32, Most: 9}, {No: 20, Kind: api.KText, Most: 9}}
	const a, b, c = "1005", "2509000000", "a2010161"
	for _, e := range []struct {
		b   string
		at  int
		why api.Errno
	}{
		{"", 0, api.ErrSlots},
		{a, 2, api.ErrSlots},
		{a + b, 7, api.ErrSlots},
		{b + c, 0, api.ErrSlots},
		{a + c, 2, api.ErrSlots},
		{c, 0, api.ErrSlots},
		{"0805" + a + b + c, 0, api.ErrSlots},
		{a + "1801" + b + c, 2, api.ErrSlots},
		{a + b + "2801" + c, 7, api.ErrSlots},
		{a + b + c + "a80100", 11, api.ErrSlots},
		{a + b + c + "a80100" + "b00100", 11, api.ErrSlots},
		{"0805" + b + c, 0, api.ErrSlots},
		{"1805" + b + c, 0, api.ErrSlots},
		{"1200" + b + c, 0, api.ErrKind},
		{"1505000000" + b + c, 0, api.ErrKind},
		{"110500000000000000" + b + c, 0, api.ErrKind},
		{a + "2005" + c, 2, api.ErrKind},
		{a + "210500000000000000" + c, 2, api.ErrKind},
		{a + "220105" + c, 2, api.ErrKind},
		{a + b + "a00100", 7, api.ErrKind},
		{a + b + "a50100000000", 7, api.ErrKind},
		{a + b + "a1010000000000000000", 7, api.ErrKind},
		{"100a" + b + c, 0, api.ErrRange},
		{a + "250a000000" + c, 2, api.ErrRange},
		{a + "2500000001" + c, 2, api.ErrRange},
		{a + b + "a2010a61616161616161616161", 7, api.ErrRange},
		{a + b + "a20101ff", 7, api.ErrForm},
		{a + b + "a2010aff616161616161616161", 7, api.ErrRange},
		// Of two, the first in the order of the slots.
		{"100a" + "2005" + c, 0, api.ErrRange},
		{"1200" + "250a000000", 0, api.ErrKind},
		{a + "2005", 2, api.ErrKind},
		{a + "250a000000" + "a20101ff" + "a80100", 2, api.ErrRange},
		{a + b + "a20101ff" + "a80100", 7, api.ErrForm},
		{"0a00" + b + c, 0, api.ErrSlots},
	} {
		misread(t, s, e.b, e.at, e.why)
		in := un(e.b)
		misread(t, row(sub(s...)), hexOf("0a", length(in)), e.at+2, e.why)
		misread(t, row(list(0, 1, s...)), hexOf("0a", length(length(in))), e.at+3, e.why)
		misread(t, row(list(0, 1, sub(s...))), hexOf("0a", length(length(append([]byte{10}, length(in)...)))), e.at+5, e.why)
	}
	if !checkDecode(t, compiled(t, s), s, un(a+b+c)) {
		t.Error("all three: not taken")
	}
}

// The values of each kind, at their bounds and beyond.
func TestDecodeErrorsOfTheValues(t *testing.T) {
	ff := "ffffffffffffffffff01"
	for _, c := range []struct {
		s   api.Slot
		b   string
		why api.Errno
	}{
		{slot(api.KNum, 5, 300), "0804", api.ErrRange}, {slot(api.KNum, 5, 300), "0805", api.OK},
		{slot(api.KNum, 5, 300), "08ac02", api.OK}, {slot(api.KNum, 5, 300), "08ad02", api.ErrRange}, {slot(api.KNum, 5, 300), "08" + ff, api.ErrRange},
		{slot(api.KFlag, 0, 0), "0800", api.OK}, {slot(api.KFlag, 0, 0), "0801", api.OK}, {slot(api.KFlag, 0, 0), "0802", api.ErrRange}, {slot(api.KFlag, 0, 0), "08" + ff, api.ErrRange},
		{slot(api.KFixed32, 1, 256), "0d00000000", api.ErrRange}, {slot(api.KFixed32, 1, 256), "0d00010000", api.OK}, {slot(api.KFixed32, 1, 256), "0d01010000", api.ErrRange},
		{slot(api.KFixed64, 1, 256), "090000000000000000", api.ErrRange}, {slot(api.KFixed64, 1, 256), "090001000000000000", api.OK}, {slot(api.KFixed64, 1, 256), "090000000000000001", api.ErrRange},
		{slot(api.KBytes, 1, 2), "0a00", api.ErrRange}, {slot(api.KBytes, 1, 2), "0a01ff", api.OK}, {slot(api.KBytes, 1, 2), "0a02ffff", api.OK}, {slot(api.KBytes, 1, 2), "0a03ffffff", api.ErrRange},
		{slot(api.KText, 1, 2), "0a00", api.ErrRange}, {slot(api.KText, 1, 2), "0a01ff", api.ErrForm}, {slot(api.KText, 1, 2), "0a02c3a9", api.OK}, {slot(api.KText, 1, 2), "0a02c080", api.ErrForm}, {slot(api.KText, 1, 2), "0a03c3a9ff", api.ErrRange},
		{slot(api.KFloat, 0, 1), "09000000000000f03f", api.OK}, {slot(api.KFloat, 0, 1), "09000000000000f0bf", api.OK}, {slot(api.KFloat, 0, 1), "09010000000000f03f", api.ErrRange}, {slot(api.KFloat, 0, 1), "09010000000000f0bf", api.ErrRange},
		{slot(api.KFloat, 0, 1), "090000000000000080", api.ErrForm}, {slot(api.KFloat, 0, 1), "09000000000000f07f", api.ErrForm}, {slot(api.KFloat, 0, 1), "09000000000000f0ff", api.ErrForm}, {slot(api.KFloat, 0, 1), "09000000000000f87f", api.ErrForm},
		{list(1, 2), "0a00", api.ErrRange}, {list(1, 2), "0a0100", api.OK}, {list(1, 2), "0a020000", api.OK}, {list(1, 2), "0a03000000", api.ErrRange},
		{list(2, 2, flags(1)...), "0a0100", api.ErrRange}, {list(0, 0, flags(1)...), "0a0100", api.ErrRange}, {list(0, 0), "0a0100", api.ErrRange},
	} {
		s := []api.Slot{c.s}
		if c.why == api.OK {
			if !checkDecode(t, compiled(t, s), s, un(c.b)) {
				t.Errorf("%s of %v is not taken", c.b, c.s)
			}
			continue
		}
		misread(t, s, c.b, 0, c.why)
		s[0].No = 2
		ahead := append([]api.Slot{{No: 1, Kind: api.KFlag}}, s...)
		later := un(c.b)
		later[0] += 8
		misread(t, ahead, hexOf("0800", later), 2, c.why)
	}
}

// A list's own errors: at their place, ahead of the number of its items, and that ahead of the items.
func TestDecodeErrorsOfLists(t *testing.T) {
	s := row(slot(api.KFlag, 0, 0), list(1, 2, flags(1)...))
	for _, c := range []struct {
		b   string
		at  int
		why api.Errno
	}{
		{"080112" + "0180", 4, api.ErrCut},
		{"080112" + "028000", 4, api.ErrNumber},
		{"080112" + "0101", 4, api.ErrCut},
		{"080112" + "04" + "020801" + "05", 7, api.ErrCut},
		{"080112" + "04" + "020802" + "05", 7, api.ErrCut},
		{"080112" + "0a" + "020801" + "020801" + "020801" + "05", 13, api.ErrCut},
		{"080112" + "00", 2, api.ErrRange},
		{"080112" + "09" + "020801" + "020801" + "020801", 2, api.ErrRange},
		{"080112" + "09" + "020802" + "020801" + "020801", 2, api.ErrRange},
		{"080112" + "03" + "000000", 2, api.ErrRange},
		{"080112" + "06" + "020802" + "020803", 5, api.ErrRange},
		{"080112" + "06" + "020801" + "020802", 8, api.ErrRange},
		{"080112" + "06" + "020801" + "021001", 8, api.ErrSlots},
		{"080112" + "06" + "020801" + "020a00", 8, api.ErrKind},
		{"080112" + "04" + "020801" + "00", 8, api.ErrSlots},
		{"080112" + "04" + "00" + "020801", 5, api.ErrSlots},
		{"080112" + "05" + "0408011001", 7, api.ErrSlots},
		{"080112" + "02" + "0108", 6, api.ErrCut},
		{"080112" + "02" + "010b", 5, api.ErrType},
		{"080112" + "04" + "03080108", 7, api.ErrOrder},
		{"080112" + "04" + "03080110", 8, api.ErrCut},
		{"080112" + "06" + "020801" + "020801" + "1801", 10, api.ErrSlots},
	} {
		misread(t, s, c.b, c.at, c.why)
	}
	// As many items as may be, and one more: layer 7's error comes ahead of the slot's.
	long := row(list(0, 4096))
	b := append([]byte{10}, length(make([]byte, 4096))...)
	if !checkDecode(t, compiled(t, long), long, b) {
		t.Error("4096 items are not taken")
	}
	b = append([]byte{10}, length(make([]byte, 4097))...)
	_, err := compiled(t, long).Decode(b)
	checkFault(t, "4097 items", err, &api.Fault{At: 3 + 4096, Why: api.ErrLong})
	few := row(list(0, 2))
	_, err = compiled(t, few).Decode(b)
	checkFault(t, "4097 items of 2", err, &api.Fault{At: 3 + 4096, Why: api.ErrLong})
	_, err = compiled(t, few).Decode(append([]byte{10}, length(make([]byte, 4096))...))
	checkFault(t, "4096 items of 2", err, &api.Fault{At: 0, Why: api.ErrRange})
}

// Behind fields of all kinds and lengths the places are still right.
func TestDecodePlaces(t *testing.T) {
	s := []api.Slot{
		{No: 1, Kind: api.KNum, Most: 1 << 62}, {No: 15, Kind: api.KFixed32, Most: 9}, {No: 16, Kind: api.KFixed64, Most: 9}, {No: 17, Kind: api.KFloat, Most: 9},
		{No: 300, Kind: api.KBytes, Most: 20000}, {No: 2048, Kind: api.KText, Most: 200}, {No: 1 << 18, Kind: api.KSub, Sub: flags(2)}, {No: 1 << 25, Kind: api.KList, Most: 300, Sub: flags(1)}, {No: mostNo, Kind: api.KFlag},
	}
	c := compiled(t, s)
	for _, n := range []int{0, 127, 128, 16384} {
		v := parts(num(1<<uint(n%60)), num(3), num(4), float(1), api.Value{Data: make([]byte, n)}, data("abc"), parts(num(1), num(1)), api.Value{Parts: slices.Repeat([]api.Value{parts(num(1))}, n%300)}, num(1))
		b := bytesByWords(s, v)
		if !checkDecode(t, c, s, b) {
			t.Error("the message is not taken")
		}
		b[len(b)-1] = 2
		_, err := c.Decode(b)
		checkFault(t, "a flag 2 at the end", err, &api.Fault{At: len(b) - 6, Why: api.ErrRange})
		b[len(b)-1] = 1
		_, err = c.Decode(b[:len(b)-6])
		checkFault(t, "no flag at the end", err, &api.Fault{At: len(b) - 6, Why: api.ErrSlots})
		if n%300 > 0 {
			b[len(b)-7] = 2
			_, err = c.Decode(b)
			checkFault(t, "a flag 2 in the last item", err, &api.Fault{At: len(b) - 8, Why: api.ErrRange})
		}
	}
}

// Drawn messages, as they are and spoiled: one byte changed, cut, something behind them, two bytes turned.
func TestDecodeOfSpoiledMessages(t *testing.T) {
	d := newDrawer(291)
	seen := map[api.Errno]int{}
	for range 1500 {
		s := d.schema()
		c := compiled(t, s)
		b := bytesByWords(s, d.message(s))
		if !checkDecode(t, c, s, b) {
			t.Fatal("a right message was not taken")
		}
		for range 12 {
			spoiled := d.spoilBytes(b)
			checkDecode(t, c, s, spoiled)
			if _, f := readByWords(s, spoiled, 0, len(spoiled)); f != nil {
				seen[f.Why]++
			}
		}
	}
	for _, why := range []api.Errno{api.ErrNumber, api.ErrOrder, api.ErrType, api.ErrCut, api.ErrSlots, api.ErrKind, api.ErrRange, api.ErrForm} {
		if seen[why] < 20 {
			t.Errorf("%v came %d times", why, seen[why])
		}
	}
}

func (d *drawer) spoilBytes(b []byte) []byte {
	b = slices.Clone(b)
	if len(b) == 0 {
		return d.bytes(d.Intn(4))
	}
	at, other := d.Intn(len(b)), d.Intn(len(b))
	switch d.Intn(7) {
	case 0:
		b[at] = byte(d.Intn(256))
	case 1:
		b[at] += byte(d.Intn(3) - 1)
	case 2:
		b[at] ^= 1 << d.Intn(8)
	case 3:
		b = b[:at]
	case 4:
		b = append(b, d.bytes(1+d.Intn(3))...)
	case 5:
		b[at], b[other] = b[other], b[at]
	case 6:
		b[at] ^= []byte{1, 2, 3, 5, 7}[d.Intn(5)] // often another wire type
	}
	return b
}

// Every cut, and every byte of one message changed to every other.
func TestDecodeOfEveryChangeOfOneByte(t *testing.T) {
	s := row(slot(api.KNum, 1, 300), slot(api.KText, 0, 4), list(0, 2, row(slot(api.KFlag, 0, 0), slot(api.KBytes, 0, 2))...), slot(api.KFloat, 0, 9), sub(row(slot(api.KFixed32, 0, 9))...))
	c := compiled(t, s)
	v := parts(num(200), data("aé"), parts(parts(num(1), data("x")), parts(num(0), data(""))), float(1.5), parts(num(7)))
	b := bytesByWords(s, v)
	for n := range b {
		if checkDecode(t, c, s, b[:n]) {
			t.Errorf("cut to %d bytes it is taken", n)
		}
		for x := range 256 {
			other := slices.Clone(b)
			other[n] = byte(x)
			checkDecode(t, c, s, other)
			checkDecode(t, c, s, slices.Insert(slices.Clone(b), n, byte(x)))
		}
		checkDecode(t, c, s, slices.Delete(slices.Clone(b), n, n+1))
	}
	for x := range 256 {
		if checkDecode(t, c, s, append(slices.Clone(b), byte(x))) {
			t.Errorf("with %x behind it, it is taken", x)
		}
	}
}

// All short lists of some bytes, by some schemas.
func TestDecodeOfAllShortLists(t *testing.T) {
	for _, s := range [][]api.Slot{
		nil, flags(1), row(slot(api.KNum, 1, 2), slot(api.KFlag, 0, 0)), row(slot(api.KText, 0, 1)), row(sub()), row(list(0, 2)), row(list(1, 2, sub())), row(sub(flags(1)...), list(0, 1)),
	} {
		c := compiled(t, s)
		through([]byte{0, 1, 2, 8, 10, 16, 18, 0x80}, 5, func(b []byte) { checkDecode(t, c, s, b) })
	}
}

func TestDecodeOfDrawnBytes(t *testing.T) {
	d := newDrawer(292)
	for range 3000 {
		s := d.schema()
		c := compiled(t, s)
		for range 5 {
			b := d.bytes(d.Intn(20))
			for i := range b {
				if d.Intn(3) > 0 {
					b[i] %= 32
				}
			}
			checkDecode(t, c, s, b)
		}
		// What is of another schema, too.
		other := d.schema()
		checkDecode(t, c, s, bytesByWords(other, d.message(other)))
	}
}

// The deepest that can be, through messages and through lists.
func TestDecodeOfTheDeepest(t *testing.T) {
	for _, wrap := range []func(int, []api.Slot) api.Slot{
		func(_ int, s []api.Slot) api.Slot { return sub(s...) },
		func(_ int, s []api.Slot) api.Slot { return list(0, 3, s...) },
	} {
		s := nested(row(slot(api.KNum, 0, 9)), mostDeep, wrap)
		c := compiled(t, s)
		b := bytesByWords(s, longest(s))
		if !checkDecode(t, c, s, b) {
			t.Error("the deepest message is not taken")
		}
		b[len(b)-1] = 10
		_, err := c.Decode(b)
		checkFault(t, "a fault in the deepest", err, &api.Fault{At: len(b) - 2, Why: api.ErrRange})
		for n := range b {
			checkDecode(t, c, s, b[:n])
		}
	}
}
