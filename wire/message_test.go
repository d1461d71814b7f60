package wire_test

import (
	"bytes"
	"math"
	"math/rand"
	"slices"
	"testing"

	"pawl/api"
	"pawl/wire"
)

// P7.3

// Examples 2 and 4.
func TestEncodeExamples(t *testing.T) {
	for _, c := range []struct {
		l    []api.Field
		want string
		e    api.Errno
	}{
		{[]api.Field{{No: 1, Type: number, Num: 150}, {No: 3, Type: byBytes, Data: []byte("ab")}}, "0896011a026162", api.OK},
		{[]api.Field{{No: 5, Type: fixed32, Num: 1}}, "2d01000000", api.OK},
		{nil, "", api.OK},
		{[]api.Field{}, "", api.OK},
		{[]api.Field{{No: 2}, {No: 1}}, "", api.ErrOrder},
		{[]api.Field{{No: 1, Type: fixed32, Num: 1 << 32}}, "", api.ErrArg},
		{[]api.Field{{No: 1, Type: 3}}, "", api.ErrType},
		{[]api.Field{{No: 0, Type: 9}}, "", api.ErrOrder},
	} {
		if b, e := wire.Encode(c.l); !bytes.Equal(b, un(c.want)) || e != c.e {
			t.Errorf("Encode(%v): %x, %v, not %s, %v", c.l, b, e, c.want, c.e)
		}
	}
}

func TestTheTypesAreAsTheDocumentHasThem(t *testing.T) {
	for _, c := range []struct {
		f    api.Field
		want string
	}{
		{api.Field{No: 1, Type: api.WireNumber, Num: math.MaxUint64}, "08ffffffffffffffffff01"},
		{api.Field{No: 1, Type: api.WireFixed64, Num: 0x0807060504030201}, "090102030405060708"},
		{api.Field{No: 1, Type: api.WireBytes, Data: []byte{9, 8}}, "0a020908"},
		{api.Field{No: 1, Type: api.WireBytes}, "0a00"},
		{api.Field{No: 1, Type: api.WireFixed32, Num: 0x04030201}, "0d01020304"},
		{api.Field{No: 1, Type: api.WireFixed32, Num: math.MaxUint32}, "0dffffffff"},
		{api.Field{No: 15, Type: api.WireNumber}, "7800"},
		{api.Field{No: 16, Type: api.WireNumber}, "800100"},
		{api.Field{No: mostNo, Type: api.WireFixed32}, "fdffffff0f00000000"},
	} {
		if b := encoded(t, []api.Field{c.f}); !bytes.Equal(b, un(c.want)) {
			t.Errorf("Encode(%v): %x, not %s", c.f, b, c.want)
		}
	}
}

func TestEncodeOfDrawnFields(t *testing.T) {
	r := rand.New(rand.NewSource(211))
	for range 2000 {
		l := drawnFields(r, r.Intn(12))
		if b, want := encoded(t, l), encodeByWords(l); !bytes.Equal(b, want) {
			t.Errorf("Encode(%v): %x, not %x", l, b, want)
		}
	}
	for count := range mostFields + 1 {
		l := drawnFields(r, count)
		if b, want := encoded(t, l), encodeByWords(l); !bytes.Equal(b, want) {
			t.Errorf("Encode of %d fields: %x, not %x", count, b, want)
		}
	}
}

// checkEncodeRefuses holds the error, and that nothing stands beside it.
func checkEncodeRefuses(t *testing.T, l []api.Field, why api.Errno) {
	t.Helper()
	if b, e := wire.Encode(l); b != nil || e != why {
		t.Errorf("Encode of %d fields %.200v: %d bytes, %v, not %v", len(l), l, len(b), e, why)
	}
}

func TestEncodeOfEachTypeWithWhatItHasNot(t *testing.T) {
	some := []byte{1}
	for _, f := range []api.Field{
		{No: 1, Type: number, Data: some},
		{No: 1, Type: number, Num: 5, Data: some},
		{No: 1, Type: fixed64, Data: some},
		{No: 1, Type: fixed64, Num: 5, Data: some},
		{No: 1, Type: fixed32, Data: some},
		{No: 1, Type: fixed32, Num: 5, Data: some},
		{No: 1, Type: fixed32, Num: 1 << 32},
		{No: 1, Type: fixed32, Num: math.MaxUint64},
		{No: 1, Type: fixed32, Num: 1 << 32, Data: some},
		{No: 1, Type: byBytes, Num: 1},
		{No: 1, Type: byBytes, Num: 1, Data: some},
		{No: 1, Type: byBytes, Num: math.MaxUint64},
		{No: 1, Type: byBytes, Num: 1 << 32},
	} {
		checkEncodeRefuses(t, []api.Field{f}, api.ErrArg)
		f.No = 2
		checkEncodeRefuses(t, []api.Field{{No: 1}, f, {No: 3}}, api.ErrArg)
	}
	// An empty Data is none, whether it is nil or not.
	for _, f := range []api.Field{
		{No: 1, Type: number, Num: 5, Data: []byte{}},
		{No: 1, Type: fixed64, Num: 5, Data: make([]byte, 0, 9)},
		{No: 1, Type: fixed32, Num: 5, Data: []byte{}},
		{No: 1, Type: byBytes, Data: []byte{}},
	} {
		if b, want := encoded(t, []api.Field{f}), encodeByWords([]api.Field{f}); !bytes.Equal(b, want) {
			t.Errorf("Encode(%v): %x, not %x", f, b, want)
		}
	}
}

func TestEncodeOfTypes(t *testing.T) {
	for kind := -20; kind < 40; kind++ {
		f := api.Field{No: 1, Type: kind}
		if kind == number || kind == fixed64 || kind == byBytes || kind == fixed32 {
			encoded(t, []api.Field{f})
		} else {
			checkEncodeRefuses(t, []api.Field{f}, api.ErrType)
		}
	}
	for _, kind := range []int{math.MinInt, math.MaxInt, 256, 258, 1 << 32, 1<<32 + 2, 1<<61 + 5} {
		checkEncodeRefuses(t, []api.Field{{No: 1, Type: kind}}, api.ErrType)
	}
}

func TestEncodeOfNos(t *testing.T) {
	for _, no := range []int{1, 2, 15, 16, 2047, 2048, 1<<28 - 1, 1 << 28, mostNo - 1, mostNo} {
		for _, kind := range []int{number, fixed64, byBytes, fixed32} {
			l := []api.Field{{No: no, Type: kind}}
			if b, want := encoded(t, l), encodeByWords(l); !bytes.Equal(b, want) {
				t.Errorf("Encode(%v): %x, not %x", l, b, want)
			}
		}
	}
	for _, no := range []int{0, -1, math.MinInt, mostNo + 1, mostNo + 2, 1 << 32, 1<<32 + 1, 1 << 61, 1<<61 + 1, math.MaxInt} {
		checkEncodeRefuses(t, []api.Field{{No: no}}, api.ErrOrder)
		checkEncodeRefuses(t, []api.Field{{No: 1}, {No: no}}, api.ErrOrder)
	}
}

func TestEncodeOfNosThatDoNotRise(t *testing.T) {
	for _, c := range []struct {
		nos []int
		why api.Errno
	}{
		{[]int{1, 2, 3}, api.OK},
		{[]int{1, mostNo - 1, mostNo}, api.OK},
		{[]int{1, 1}, api.ErrOrder},
		{[]int{2, 1}, api.ErrOrder},
		{[]int{1, 3, 3}, api.ErrOrder},
		{[]int{1, 3, 2}, api.ErrOrder},
		{[]int{5, 7, 6, 8}, api.ErrOrder},
		{[]int{mostNo, mostNo}, api.ErrOrder},
		{[]int{mostNo, mostNo + 1}, api.ErrOrder},
		{[]int{mostNo, 1}, api.ErrOrder},
		{[]int{-2, -1}, api.ErrOrder},
		{[]int{0, 1}, api.ErrOrder},
	} {
		var l []api.Field
		for _, no := range c.nos {
			l = append(l, api.Field{No: no})
		}
		if _, e := wire.Encode(l); e != c.why {
			t.Errorf("Encode of the numbers %v: %v, not %v", c.nos, e, c.why)
		}
	}
}

// Two faults at once: the one that is asked first is the answer.
func TestEncodeAsksInItsOrder(t *testing.T) {
	great := api.Field{No: 60, Type: byBytes, Data: make([]byte, mostBytes)}
	wrong := make([]api.Field, mostFields+1)
	checkEncodeRefuses(t, wrong, api.ErrLong) // too many, ahead of their numbers
	for i := range wrong {
		wrong[i] = api.Field{No: i + 1, Type: 7}
	}
	checkEncodeRefuses(t, wrong, api.ErrLong)              // ahead of their types
	checkEncodeRefuses(t, wrong[:mostFields], api.ErrType) // not too many
	some := []byte{1}
	for _, c := range []struct {
		l   []api.Field
		why api.Errno
	}{
		// Of one field: the number, the type, what it holds.
		{[]api.Field{{No: 0, Type: 3, Num: 1, Data: some}}, api.ErrOrder},
		{[]api.Field{{No: mostNo + 1, Type: 4}}, api.ErrOrder},
		{[]api.Field{{No: 0, Type: byBytes, Num: 1}}, api.ErrOrder},
		{[]api.Field{{No: 1, Type: 3, Num: 1, Data: some}}, api.ErrType},
		{[]api.Field{{No: 3}, {No: 3, Type: 3}}, api.ErrOrder},
		{[]api.Field{{No: 3}, {No: 3, Type: byBytes, Num: 1}}, api.ErrOrder},
		// Of two fields: all of the first ahead of the second.
		{[]api.Field{{No: 1, Type: byBytes, Num: 1}, {No: 1}}, api.ErrArg},
		{[]api.Field{{No: 1, Type: byBytes, Num: 1}, {No: 2, Type: 3}}, api.ErrArg},
		{[]api.Field{{No: 1, Type: 3}, {No: 0}}, api.ErrType},
		{[]api.Field{{No: 1, Type: 3}, {No: 2, Type: number, Data: some}}, api.ErrType},
		{[]api.Field{{No: 0}, {No: 2, Type: 3}}, api.ErrOrder},
		{[]api.Field{{No: 2, Type: 6}, {No: 1}}, api.ErrType},
		// Too many bytes behind all of that.
		{[]api.Field{great}, api.ErrLong},
		{[]api.Field{great, {No: 60}}, api.ErrOrder},
		{[]api.Field{great, {No: 61, Type: 3}}, api.ErrType},
		{[]api.Field{great, {No: 61, Type: byBytes, Num: 1}}, api.ErrArg},
		{[]api.Field{great, {No: 61}}, api.ErrLong},
		{[]api.Field{{No: 0}, great}, api.ErrOrder},
	} {
		checkEncodeRefuses(t, c.l, c.why)
	}
}

func TestMostFields(t *testing.T) {
	r := rand.New(rand.NewSource(212))
	for range 20 {
		l := drawnFields(r, mostFields+1)
		b := encoded(t, l[:mostFields])
		checkDecode(t, b)
		checkEncodeRefuses(t, l, api.ErrLong)
		more := encodeByWords(l)
		if got, at, e := wire.Decode(more); got != nil || at != len(b) || e != api.ErrLong {
			t.Errorf("Decode of %d fields: %d of them, %d, %v", len(l), len(got), at, e)
		}
		checkDecode(t, more)
	}
}

// Of one great field: just MaxWire bytes, and one more.
func TestMostBytes(t *testing.T) {
	const data = mostBytes - 5 // behind one byte for the number and type, and four for the count
	l := []api.Field{{No: 1, Type: byBytes, Data: drawn(rand.New(rand.NewSource(213)), data)}}
	b := encoded(t, l)
	if len(b) != mostBytes || !bytes.Equal(b, encodeByWords(l)) {
		t.Errorf("Encode of %d bytes: %d", data, len(b))
	}
	checkDecode(t, b)
	l[0].Data = append(l[0].Data, 0)
	checkEncodeRefuses(t, l, api.ErrLong)
	long := encodeByWords(l)
	if got, at, e := wire.Decode(long); got != nil || at != 0 || e != api.ErrLong {
		t.Errorf("Decode of %d bytes: %d fields, %d, %v", len(long), len(got), at, e)
	}
	checkDecode(t, long)
}

// The bytes of all fields count together, those of each type.
func TestMostBytesOfManyFields(t *testing.T) {
	for _, c := range []struct {
		last api.Field
		size int
	}{
		{api.Field{No: 2, Type: number, Num: 0}, 2},
		{api.Field{No: 2, Type: number, Num: 1 << 63}, 11},
		{api.Field{No: 2, Type: fixed64}, 9},
		{api.Field{No: 2, Type: fixed32}, 5},
		{api.Field{No: 2, Type: byBytes}, 2},
		{api.Field{No: 2, Type: byBytes, Data: make([]byte, 128)}, 131},
		{api.Field{No: mostNo, Type: fixed32}, 9},
	} {
		room := mostBytes - c.size - 5
		l := []api.Field{{No: 1, Type: byBytes, Data: make([]byte, room)}, c.last}
		if b := encoded(t, l); len(b) != mostBytes {
			t.Errorf("Encode with %v at the end: %d bytes", c.last, len(b))
		}
		l[0].Data = make([]byte, room+1)
		checkEncodeRefuses(t, l, api.ErrLong)
	}
}

// Bytes that are of no message at all, but too many of them.
func TestDecodeOfTooManyBytes(t *testing.T) {
	for _, n := range []int{mostBytes + 1, mostBytes + 2, 2 * mostBytes} {
		b := make([]byte, n)
		if l, at, e := wire.Decode(b); l != nil || at != 0 || e != api.ErrLong {
			t.Errorf("Decode of %d bytes: %v, %d, %v", n, l, at, e)
		}
		copy(b, un("0896010b"))
		if l, at, e := wire.Decode(b); l != nil || at != 0 || e != api.ErrLong {
			t.Errorf("Decode of %d bytes: %v, %d, %v", n, l, at, e)
		}
		checkThrough(t, b, nil)
	}
	b := make([]byte, mostBytes)
	if l, at, e := wire.Decode(b); l != nil || at != 0 || e != api.ErrOrder {
		t.Errorf("Decode of %d bytes 0: %v, %d, %v", len(b), l, at, e)
	}
}

// P7.4

// Example 3.
func TestDecodeExamples(t *testing.T) {
	for _, c := range []struct {
		b  string
		at int
		e  api.Errno
	}{
		{"0896010801", 3, api.ErrOrder},
		{"0b", 0, api.ErrType},
		{"0000", 0, api.ErrOrder},
		{"1a0561", 1, api.ErrCut},
		{"0900", 1, api.ErrCut},
		{"088000", 1, api.ErrNumber},
		{"880001", 0, api.ErrNumber},
	} {
		if l, at, e := wire.Decode(un(c.b)); l != nil || at != c.at || e != c.e {
			t.Errorf("Decode(%s): %v, %d, %v, not %d, %v", c.b, l, at, e, c.at, c.e)
		}
	}
	l, at, e := wire.Decode(un("0896011a026162"))
	want := []api.Field{{No: 1, Type: number, Num: 150}, {No: 3, Type: byBytes, Data: []byte("ab")}}
	if !sameFields(l, want) || at != 0 || e != api.OK {
		t.Errorf("Decode: %v, %d, %v", l, at, e)
	}
	for _, b := range [][]byte{nil, {}, make([]byte, 0, 9)} {
		if l, at, e := wire.Decode(b); len(l) != 0 || at != 0 || e != api.OK {
			t.Errorf("Decode of no bytes: %v, %d, %v", l, at, e)
		}
	}
}

func TestDecodeErrorsAtTheirPlaces(t *testing.T) {
	for _, c := range []struct {
		b  string
		at int
		e  api.Errno
	}{
		// The first number.
		{"80", 0, api.ErrCut},
		{"08018a", 2, api.ErrCut},
		{"ffffffffffffffffffff", 0, api.ErrNumber},
		{"0801ffffffffffffffffff02", 2, api.ErrNumber},
		{"08018000", 2, api.ErrNumber},
		// No 0, or above the greatest, of each type.
		{"01", 0, api.ErrOrder},
		{"02", 0, api.ErrOrder},
		{"07", 0, api.ErrOrder},
		{"808080801000", 0, api.ErrOrder},             // 2^29
		{"878080801000", 0, api.ErrOrder},             // of type 7
		{"88808080808080808001", 0, api.ErrOrder},     // 2^60 + 1
		{"8880808080808080800100", 0, api.ErrOrder},   // and a value
		{"8880808080010000", 0, api.ErrOrder},         // 2^32 + 1
		{"ffffffffffffffffff01", 0, api.ErrOrder},     // 2^61 - 1
		{"fdffffff0f00000000", 0, api.OK},             // 2^29 - 1
		{"f8ffffff0f00808080801000", 6, api.ErrOrder}, // 2^29 - 1, then 2^29
		{"f8ffffff0f00f9ffffff0f00", 6, api.ErrOrder}, // the greatest twice
		{"10010801", 2, api.ErrOrder},                 // falling
		{"1001100210030801", 2, api.ErrOrder},         // equal
		{"08010b", 2, api.ErrOrder},                   // equal, and of no type
		{"0801130a", 2, api.ErrType},                  // rising, of type 3
		{"0c", 0, api.ErrType},
		{"0e", 0, api.ErrType},
		{"0f", 0, api.ErrType},
		// The value.
		{"08", 1, api.ErrCut},
		{"0880", 1, api.ErrCut},
		{"08ffffffffffffffffff02", 1, api.ErrNumber},
		{"800180", 2, api.ErrCut},
		{"09", 1, api.ErrCut},
		{"0901020304050607", 1, api.ErrCut},
		{"090102030405060708", 0, api.OK},
		{"0d", 1, api.ErrCut},
		{"0d010203", 1, api.ErrCut},
		{"0d01020304", 0, api.OK},
		{"0a", 1, api.ErrCut},
		{"0a80", 1, api.ErrCut},
		{"0a8000", 1, api.ErrNumber},
		{"0a01", 1, api.ErrCut},
		{"0a026100", 0, api.OK},
		{"0a0361", 1, api.ErrCut},
		{"0affffffffffffffffff01", 1, api.ErrCut},
		{"0a80808080808080808001", 1, api.ErrCut},
		{"0affffffffffffffff7f61", 1, api.ErrCut},
		{"0a8080808010", 1, api.ErrCut},
		{"0a8180808010ff", 1, api.ErrCut}, // 2^32 + 1
		{"080112021a", 3, api.ErrCut},
	} {
		l, at, e := wire.Decode(un(c.b))
		if at != c.at || e != c.e || e != api.OK && l != nil {
			t.Errorf("Decode(%s): %v, %d, %v, not %d, %v", c.b, l, at, e, c.at, c.e)
		}
		checkDecode(t, un(c.b))
	}
}

// Behind MaxFields fields: a first number that is none, ahead of ErrLong; ErrLong ahead of its No and its type.
func TestDecodeBehindTheLastField(t *testing.T) {
	var l []api.Field
	for no := range mostFields {
		l = append(l, api.Field{No: no + 1})
	}
	b := encoded(t, l)
	for _, c := range []struct {
		more string
		e    api.Errno
	}{
		{"80", api.ErrCut},
		{"8000", api.ErrNumber},
		{"00", api.ErrLong},
		{"0b", api.ErrLong},
		{"08", api.ErrLong},
		{"ff7f", api.ErrLong},
		{"f87f", api.ErrLong},
		{"f87f00", api.ErrLong},
	} {
		all := slices.Concat(b, un(c.more))
		if got, at, e := wire.Decode(all); got != nil || at != len(b) || e != c.e {
			t.Errorf("Decode of %s behind %d fields: %d, %v, not %v", c.more, mostFields, at, e, c.e)
		}
		checkDecode(t, all)
	}
}

func TestDecodeOfDrawnBytes(t *testing.T) {
	r := rand.New(rand.NewSource(214))
	for range 30000 {
		b := drawn(r, r.Intn(24))
		for i := range b { // small bytes make more that is right
			if r.Intn(2) == 0 {
				b[i] %= 32
			}
		}
		checkDecode(t, b)
	}
}

func TestDecodeOfEachShortMessage(t *testing.T) {
	for x := range 256 {
		checkDecode(t, []byte{byte(x)})
		for y := range 256 {
			checkDecode(t, []byte{byte(x), byte(y)})
		}
	}
}

func TestDecodeWithOneByteChanged(t *testing.T) {
	r := rand.New(rand.NewSource(215))
	for range 60 {
		b := encoded(t, drawnFields(r, 1+r.Intn(5)))
		for i := range b {
			for _, x := range []byte{1, 2, 4, 0x80, 0xff, byte(1 + r.Intn(255))} {
				other := slices.Clone(b)
				other[i] ^= x
				checkDecode(t, other)
			}
			checkDecode(t, slices.Delete(slices.Clone(b), i, i+1))
			checkDecode(t, slices.Insert(slices.Clone(b), i, byte(r.Intn(256))))
		}
	}
}

// P7.8

func TestWhatIsEncodedIsDecoded(t *testing.T) {
	r := rand.New(rand.NewSource(216))
	for i := range 3000 {
		l := drawnFields(r, i%(mostFields+1))
		got, at, e := wire.Decode(encoded(t, l))
		if !sameFields(got, l) || at != 0 || e != api.OK {
			t.Errorf("Decode(Encode(%v)): %v, %d, %v", l, got, at, e)
		}
	}
	for _, n := range edgeNumbers() {
		l := []api.Field{{No: 1, Type: number, Num: n}, {No: 2, Type: fixed64, Num: n}, {No: 3, Type: fixed32, Num: n % (1 << 32)}}
		if got, _, e := wire.Decode(encoded(t, l)); !sameFields(got, l) || e != api.OK {
			t.Errorf("Decode(Encode(%v)): %v, %v", l, got, e)
		}
	}
	for _, n := range []int{0, 1, 127, 128, 129, 16383, 16384, 16385, 1 << 20, 1 << 21} {
		l := []api.Field{{No: 7, Type: byBytes, Data: drawn(r, n)}, {No: 8, Num: 1}}
		if got, _, e := wire.Decode(encoded(t, l)); !sameFields(got, l) || e != api.OK {
			t.Errorf("Decode(Encode) of %d bytes: %v", n, e)
		}
	}
}

func TestWhatIsDecodedIsEncoded(t *testing.T) {
	r := rand.New(rand.NewSource(217))
	taken := 0
	for range 40000 {
		b := drawn(r, r.Intn(9))
		for i := range b {
			b[i] %= 64
		}
		l, _, e := wire.Decode(b)
		if e != api.OK {
			continue
		}
		taken++
		if got, e := wire.Encode(l); !bytes.Equal(got, b) || e != api.OK {
			t.Errorf("Encode(Decode(%x)): %x, %v", b, got, e)
		}
	}
	if taken < 1000 {
		t.Errorf("only %d messages were taken", taken)
	}
}

// P7.10

func TestAMessageCutAnywhere(t *testing.T) {
	r := rand.New(rand.NewSource(218))
	for range 300 {
		l := drawnFields(r, 1+r.Intn(6))
		b := encoded(t, l)
		all, _, _ := decodeByWords(b)
		for cut := range b {
			checkDecode(t, b[:cut])
			got, at, e := wire.Decode(slices.Clone(b[:cut]))
			k := slices.IndexFunc(all, func(w whole) bool { return cut < w.end }) // the field that is cut
			if cut == all[k].at {
				if !sameFields(got, l[:k]) || at != 0 || e != api.OK {
					t.Errorf("%x cut where a field ends, at %d: %v, %d, %v", b, cut, got, at, e)
				}
				continue
			}
			place := all[k].at
			if value := place + len(formByWords(uint64(8*l[k].No+l[k].Type))); cut >= value {
				place = value
			}
			if got != nil || at != place || e != api.ErrCut {
				t.Errorf("%x cut at %d: %v, %d, %v, not %d", b, cut, got, at, e, place)
			}
		}
	}
}
