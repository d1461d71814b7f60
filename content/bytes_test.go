package content_test

import (
	"bytes"
	"encoding/binary"
	"encoding/hex"
	"math"
	"slices"
	"strings"
	"testing"

	"pawl/api"
	"pawl/content"
)

// P9.2

// Of examples 1 and 2, and one of each other kind, worked by hand.
func TestEncodeExamples(t *testing.T) {
	key := api.Key{0xaa, 31: 0xbb}
	for _, x := range []struct {
		c api.Content
		b string
	}{
		{api.Content{Kind: api.CText, Text: "hi"}, "08 01 12 02 68 69"},
		{api.Content{Kind: api.CText}, "08 01 12 00"},
		{api.Content{Kind: api.CText, Text: "é"}, "08 01 12 02 c3 a9"},
		{api.Content{Kind: api.CReceipt, Number: 2, Marks: []uint32{3, 300}}, "08 02 10 02 1a 07 02 08 03 03 08 ac 02"},
		{api.Content{Kind: api.CReceipt, Number: 1, Marks: []uint32{math.MaxUint32}}, "08 02 10 01 1a 07 06 08 ff ff ff ff 0f"},
		{api.Content{Kind: api.CPlace, Lat: 52.5, Long: -0.25}, "08 03 11 00 00 00 00 00 40 4a 40 19 00 00 00 00 00 00 d0 bf 22 00"},
		{api.Content{Kind: api.CReact, Number: 7, Text: "+"}, "08 04 10 07 1a 01 2b"},
		{api.Content{Kind: api.CTimer}, "08 05 10 00"},
		{api.Content{Kind: api.CTimer, Number: 31536000}, "08 05 10 80 e7 84 0f"},
		{api.Content{Kind: api.CFile, Text: "a", Number: 1 << 40, Key: key}, "08 06 12 01 61 18 80 80 80 80 80 20 22 20 aa " + strings.Repeat("00 ", 30) + "bb"},
	} {
		b, err := content.Encode(x.c)
		if err != nil || !bytes.Equal(b, un(x.b)) {
			t.Errorf("%v: %x, %v, not %s", x.c, b, err, x.b)
		}
		checkContent(t, x.c)
		if checkDecode(t, un(x.b)) != api.OK {
			t.Errorf("%s is not taken", x.b)
		}
	}
}

func TestEncodeRefuses(t *testing.T) {
	for _, x := range []struct {
		c api.Content
		e api.Errno
	}{
		{api.Content{}, api.ErrContent},
		{api.Content{Kind: api.CText, Text: "\xff"}, api.ErrContent},
		{api.Content{Kind: api.CReceipt, Number: 2, Marks: []uint32{3, 3}}, api.ErrContent},
		{api.Content{Kind: api.CPlace, Lat: 90.5}, api.ErrPlace},
		{api.Content{Kind: api.CPlace, Lat: 90.5, Number: 1}, api.ErrPlace},
		{api.Content{Kind: api.CPlace, Lat: 90, Number: 1}, api.ErrContent},
	} {
		b, err := content.Encode(x.c)
		checkFault(t, "Encode", err, &api.Fault{Why: x.e})
		if b != nil {
			t.Errorf("%v: %x beside %v", x.c, b, err)
		}
	}
}

// Each error is a new one.
func TestFaultsAreNew(t *testing.T) {
	_, one := content.Encode(api.Content{})
	_, other := content.Encode(api.Content{})
	*other.(*api.Fault) = api.Fault{}
	checkFault(t, "Encode", one, &api.Fault{Why: api.ErrContent})
	for _, b := range [][]byte{nil, un("0807"), un("0805"), un("080210021a07 0308ac02 020803")} {
		_, one = content.Decode(b)
		_, other = content.Decode(b)
		was := *one.(*api.Fault)
		*other.(*api.Fault) = api.Fault{Line: 7}
		checkFault(t, "Decode", one, &was)
	}
}

// P9.3

func misread(t *testing.T, b string, at int, why api.Errno) {
	t.Helper()
	c, err := content.Decode(un(b))
	checkFault(t, b, err, &api.Fault{At: at, Why: why})
	if !zero(c) {
		t.Errorf("%s: %v beside %v", b, c, err)
	}
	checkDecode(t, un(b))
}

// Of examples 2 and 5.
func TestDecodeExamples(t *testing.T) {
	misread(t, "08 02 10 02 1a 07 03 08 ac 02 02 08 03", 4, api.ErrContent)
	misread(t, "", 0, api.ErrSlots)
	misread(t, "08 07", 0, api.ErrContent)
	misread(t, "08 05", 2, api.ErrSlots)
	misread(t, "08 05 10 81 e7 84 0f", 2, api.ErrRange)
}

// The errors in their order: each one ahead of all that follow.
func TestDecodeOrder(t *testing.T) {
	// Layer 7's, wherever they stand.
	misread(t, "08", 1, api.ErrCut)
	misread(t, "88 00 01", 0, api.ErrNumber)
	misread(t, "0b", 0, api.ErrType)
	misread(t, "00 00", 0, api.ErrOrder)
	misread(t, "10 01 08 01", 2, api.ErrOrder)
	misread(t, "10 01 1a 05", 3, api.ErrCut)
	misread(t, "0a 00 12 01", 3, api.ErrCut)
	misread(t, "08 07 13", 2, api.ErrType)
	misread(t, "08 05 10 81 e7 84 0f 18", 8, api.ErrCut)
	misread(t, "08 02 10 02 1a 04 02 08 03 02 20", 11, api.ErrCut)
	misread(t, strings.Repeat("08 ", 1<<21)+"00", 2, api.ErrOrder)
	misread(t, strings.Repeat("08 ", 1<<22)+"08", 0, api.ErrLong)
	// The first field's number, its type, what it tells.
	misread(t, "10 01", 0, api.ErrSlots)
	misread(t, "12 00", 0, api.ErrSlots)
	misread(t, "10 01 1a 00", 0, api.ErrSlots)
	for _, typed := range []string{"0a 00", "0a 01 01", "09 01 00 00 00 00 00 00 00", "0d 01 00 00 00"} {
		misread(t, typed, 0, api.ErrKind)
		misread(t, typed+"12 00", 0, api.ErrKind)
	}
	for _, n := range []uint64{0, 7, 8, 127, 128, 257, 1<<32 + 1, 1<<32 + 5, 1 << 63, 1<<63 + 1, math.MaxUint64} {
		first := hex.EncodeToString(binary.AppendUvarint([]byte{8}, n))
		misread(t, first, 0, api.ErrContent)
		misread(t, first+"12 00", 0, api.ErrContent)
	}
	// Layer 8's, by the kind's schema.
	misread(t, "08 01", 2, api.ErrSlots)
	misread(t, "08 01 10 00", 2, api.ErrKind)
	misread(t, "08 01 1a 00", 2, api.ErrSlots)
	misread(t, "08 01 12 00 18 00", 4, api.ErrSlots)
	misread(t, "08 01 12 01 ff", 2, api.ErrForm)
	misread(t, "08 02 10 00 1a 00", 2, api.ErrRange)
	misread(t, "08 02 10 03 1a 00", 2, api.ErrRange)
	misread(t, "08 02 10 02 1a 00", 4, api.ErrRange)
	misread(t, "08 02 10 02 1a 01 00", 7, api.ErrSlots)
	misread(t, "08 02 10 02 1a 07 06 08 80 80 80 80 10", 7, api.ErrRange)
	misread(t, "08 03 11 00 00 00 00 00 a0 56 40 19 00 00 00 00 00 00 d0 bf 22 00", 2, api.ErrRange)
	misread(t, "08 03 11 00 00 00 00 00 00 00 80 19 00 00 00 00 00 00 d0 bf 22 00", 2, api.ErrForm)
	misread(t, "08 03 11 00 00 00 00 00 00 00 00 19 00 00 00 00 00 00 f0 7f 22 00", 11, api.ErrForm)
	misread(t, "08 03 11 00 00 00 00 00 00 00 00 19 00 00 00 00 00 90 66 40 22 00", 11, api.ErrRange)
	misread(t, "08 04 10 80 80 80 80 10 1a 01 2b", 2, api.ErrRange)
	misread(t, "08 04 10 07 1a 00", 4, api.ErrRange)
	misread(t, "08 06 12 00 18 05 22 00", 2, api.ErrRange)
	misread(t, "08 06 12 01 61 18 81 80 80 80 80 20 22 00", 5, api.ErrRange)
	misread(t, "08 06 12 01 61 18 05 22 00", 7, api.ErrRange)
	misread(t, "08 06 12 01 61 18 05 22 1f"+strings.Repeat("00", 31), 7, api.ErrRange)
	misread(t, "08 06 12 01 61 18 05 22 21"+strings.Repeat("00", 33), 7, api.ErrRange)
	// Marks that do not rise: behind all of layer 8's.
	misread(t, "08 02 10 01 1a 06 02 08 03 02 08 03", 4, api.ErrContent)
	misread(t, "08 02 10 01 1a 06 02 08 03 02 08 03 20 00", 12, api.ErrSlots)
	misread(t, "08 02 10 03 1a 06 02 08 03 02 08 03", 2, api.ErrRange)
	misread(t, "08 02 10 01 1a 09 02 08 03 02 08 03 02 10 04", 13, api.ErrSlots)
}

// Receipts of as many marks as may be, one more, and one that does not rise at each place.
func TestDecodeMarks(t *testing.T) {
	c := api.Content{Kind: api.CReceipt, Number: 1}
	for n := range 103 {
		c.Marks = append(c.Marks, uint32(n*n*9))
		b := bytesByWords(c)
		want := api.OK
		if n >= 100 {
			want = api.ErrRange
		}
		if e := checkDecode(t, b); e != want {
			t.Errorf("%d marks: %v", n+1, e)
		}
	}
	c.Marks = c.Marks[:100]
	for i := 1; i < 100; i++ {
		twice := c
		twice.Marks = slices.Clone(c.Marks)
		twice.Marks[i] = twice.Marks[i-1]
		if e := checkDecode(t, bytesByWords(twice)); e != api.ErrContent {
			t.Errorf("the mark %d twice: %v", i, e)
		}
	}
}

// All lists of up to two bytes, and all that begin as each kind does with two more.
func TestDecodeOfAllShort(t *testing.T) {
	checkDecode(t, nil)
	for a := range 256 {
		checkDecode(t, []byte{byte(a)})
		for b := range 256 {
			checkDecode(t, []byte{byte(a), byte(b)})
			for _, kind := range kinds {
				checkDecode(t, []byte{8, byte(kind), byte(a), byte(b)})
			}
		}
	}
}

// A content of each kind: cut at each place, each byte changed to each other one, something behind it.
func TestDecodeOfEachKindSpoiled(t *testing.T) {
	d := newDrawer(305)
	for _, kind := range kinds {
		b := bytesByWords(plain(kind))
		for at := range b {
			if checkDecode(t, b[:at]) == api.OK {
				t.Errorf("%x is taken", b[:at])
			}
			for x := range 256 {
				other := slices.Clone(b)
				other[at] = byte(x)
				checkDecode(t, other)
			}
		}
		for x := range 256 {
			for _, behind := range [][]byte{{byte(x)}, {byte(x), 0}, {byte(x), byte(d.Intn(256)), 1}} {
				if checkDecode(t, append(slices.Clone(b), behind...)) == api.OK {
					t.Errorf("%x is taken with %x behind it", b, behind)
				}
			}
		}
	}
}

// Drawn bytes, and drawn contents spoiled.
func TestDecodeOfDrawn(t *testing.T) {
	d := newDrawer(306)
	seen := map[api.Errno]int{}
	for range 20000 {
		b := make([]byte, d.Intn(30))
		d.Read(b)
		checkDecode(t, b)
		if len(b) > 2 {
			b[0], b[1] = 8, byte(1+d.Intn(6))
			checkDecode(t, b)
		}
		b = bytesByWords(d.any())
		for range 3 {
			seen[checkDecode(t, d.spoil(b))]++
		}
	}
	for _, why := range []api.Errno{api.OK, api.ErrNumber, api.ErrOrder, api.ErrType, api.ErrCut, api.ErrSlots, api.ErrKind, api.ErrRange, api.ErrForm, api.ErrContent} {
		if seen[why] < 50 {
			t.Errorf("%v came %d times", why, seen[why])
		}
	}
}

// spoil changes a byte or a bit, turns two about, cuts, or puts something behind.
func (d drawer) spoil(b []byte) []byte {
	b = slices.Clone(b)
	at, other := d.Intn(len(b)), d.Intn(len(b))
	if d.Intn(2) == 0 { // the heads of fields stand ahead of long texts
		at = d.Intn(min(len(b), 8))
	}
	switch d.Intn(6) {
	case 0:
		b[at] = byte(d.Intn(256))
	case 1:
		b[at] += byte(d.Intn(3) - 1)
	case 2:
		b[at] ^= 1 << d.Intn(8)
	case 3:
		b = b[:at]
	case 4:
		b = append(b, byte(d.Intn(256)), byte(d.Intn(256)))
	case 5:
		b[at], b[other] = b[other], b[at]
	}
	return b
}

// P9.8, there and back: checkContent, checkDecode and checkParse hold it in all the tests.

// P9.9

// Contents that are close to one another have neither bytes nor lines in common; nor have drawn ones.
func TestApart(t *testing.T) {
	d := newDrawer(307)
	byBytes, byLines := map[string]api.Content{}, map[string]api.Content{}
	count := 0
	hold := func(c api.Content) {
		if content.Check(c) != api.OK {
			return
		}
		count++
		b, _ := content.Encode(c)
		line, _ := content.Print(c)
		if other, ok := byBytes[string(b)]; ok && !same(other, c) {
			t.Errorf("%x is %v and %v", b, other, c)
		}
		if other, ok := byLines[line]; ok && !same(other, c) {
			t.Errorf("%q is %v and %v", line, other, c)
		}
		byBytes[string(b)], byLines[line] = c, c
	}
	for range 3000 {
		c := d.any()
		hold(c)
		for range 5 {
			hold(d.twist(c))
		}
	}
	for _, text := range []string{"\u00e9", `\u{e9}`, "e\u0301", `"`, `\"`, `\`, `\\`, "\x00", "0", `\u{0}`, " ", "  "} {
		hold(api.Content{Kind: api.CText, Text: text})
		hold(api.Content{Kind: api.CPlace, Text: text})
		hold(api.Content{Kind: api.CReact, Text: text})
		hold(api.Content{Kind: api.CFile, Text: text})
	}
	if count < 5000 || len(byBytes) != len(byLines) {
		t.Errorf("%d contents, %d bytes, %d lines", count, len(byBytes), len(byLines))
	}
}
