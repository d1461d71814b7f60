package prekeys_test

import (
	"bytes"
	"encoding/hex"
	"errors"
	"math"
	"math/rand"
	"slices"
	"strings"
	"testing"

	"pawl/api"
	"pawl/prekeys"
)

// P23.1: a listing's bytes, there and back.

// checkBytes holds Text and Pack of a listing against the words, and Parse against Pack.
func checkBytes(t *testing.T, l api.Listing) {
	t.Helper()
	if got, want := prekeys.Text(l), textByWords(l); !bytes.Equal(got, want) {
		t.Fatalf("Text(%v): %x, not %x", l, got, want)
	}
	got, want := prekeys.Pack(l), packByWords(l)
	if !bytes.Equal(got, want) {
		t.Fatalf("Pack(%v): %x, not %x", l, got, want)
	}
	if len(l.Name) <= 4096 {
		if back, err := prekeys.Parse(got); err != nil || back != l {
			t.Fatalf("Parse(%x): %v, %v, not %v", got, back, err, l)
		}
	}
}

// checkParse holds Parse against the words; what it takes, Pack makes again. It answers why b is refused.
func checkParse(t *testing.T, b []byte) api.Errno {
	t.Helper()
	want, f := parseByWords(t, b)
	got, err := prekeys.Parse(b)
	if got != want {
		t.Fatalf("Parse(%x): %v, not %v", b, got, want)
	}
	if f == nil {
		if again := prekeys.Pack(got); err != nil || !bytes.Equal(again, b) || !bytes.Equal(packByWords(want), b) {
			t.Fatalf("Parse(%x): %v; Pack of it: %x", b, err, again)
		}
		return api.OK
	}
	if g, is := err.(*api.Fault); !is || g == nil || *g != *f || !errors.Is(err, f.Why) {
		t.Fatalf("Parse(%x): %v, not %v", b, err, f)
	}
	return f.Why
}

// misread: b is refused, at that place.
func misread(t *testing.T, what string, b []byte, at int, why api.Errno) {
	t.Helper()
	got, err := prekeys.Parse(b)
	f, is := err.(*api.Fault)
	if got != (api.Listing{}) || !is || f == nil || *f != (api.Fault{At: at, Why: why}) {
		t.Errorf("%s: %v, %v, not %d at %d", what, got, err, why, at)
	}
	checkParse(t, b)
}

func unhex(t *testing.T, text string) []byte {
	t.Helper()
	b, err := hex.DecodeString(strings.ReplaceAll(text, " ", ""))
	if err != nil {
		t.Fatal(err)
	}
	return b
}

// some is a listing in which no two bytes of a field are alike.
func some() api.Listing {
	l := api.Listing{Name: "ann", Device: 3, Number: 0x04030201, Gone: true}
	for i := range 32 {
		l.Identity[i], l.Signed[i] = 0x60+byte(i), 0x80+byte(i)
	}
	for i := range l.Sig {
		l.Sig[i] = 0xa0 + byte(i)
	}
	return l
}

func TestBytes(t *testing.T) {
	text := unhex(t, "0a03 616e6e 11 0300000000000000 1a20"+
		"606162636465666768696a6b6c6d6e6f707172737475767778797a7b7c7d7e7f 2220"+
		"808182838485868788898a8b8c8d8e8f909192939495969798999a9b9c9d9e9f 2d 01020304 3001")
	pack := slices.Concat(text, unhex(t, "3a40"+
		"a0a1a2a3a4a5a6a7a8a9aaabacadaeafb0b1b2b3b4b5b6b7b8b9babbbcbdbebfc0c1c2c3c4c5c6c7c8c9cacbcccdcecfd0d1d2d3d4d5d6d7d8d9dadbdcdddedf"))
	if got := prekeys.Text(some()); !bytes.Equal(got, text) {
		t.Errorf("Text: %x", got)
	}
	if got := prekeys.Pack(some()); !bytes.Equal(got, pack) || len(pack) != 155 {
		t.Errorf("Pack: %x", got)
	}
	checkBytes(t, some())
	if got := prekeys.Text(api.Listing{}); !bytes.Equal(got, unhex(t, "0a00 11 0000000000000000 1a20"+strings.Repeat("00", 32)+"2220"+strings.Repeat("00", 32)+"2d 00000000 3000")) {
		t.Errorf("Text of the zero listing: %x", got)
	}
	checkBytes(t, api.Listing{})
}

// Names of all lengths, such as are no names too; beyond 4096 bytes there are none.
func TestBytesOfNames(t *testing.T) {
	l := some()
	for _, n := range []int{0, 1, 2, 15, 16, 17, 18, 31, 126, 127, 128, 129, 300, 4094, 4095, 4096} {
		for _, letter := range []string{"a", "Z", "\x00", "\xff", "\x80"} {
			l.Name = strings.Repeat(letter, n)
			checkBytes(t, l)
			if got := prekeys.Text(l); len(got) == 0 {
				t.Errorf("a name of %d bytes: no text", n)
			}
		}
	}
	for n := range 300 {
		l.Name = strings.Repeat("ö\xff", n)
		checkBytes(t, l)
	}
	for _, n := range []int{4097, 4098, 4096 + 16, 8192, 1 << 16, 1 << 22, 1<<22 + 1} {
		l.Name = strings.Repeat("a", n)
		if text, pack := prekeys.Text(l), prekeys.Pack(l); len(text) != 0 || len(pack) != 0 {
			t.Errorf("a name of %d bytes: %d and %d bytes", n, len(text), len(pack))
		}
	}
}

// Numbers of devices and of keys at their ends.
func TestBytesOfNumbers(t *testing.T) {
	for _, device := range []int{0, 1, 2, 3, 4, 5, -1, -2, -4, 127, 128, 255, 256, 257, 1<<31 - 1, 1 << 31, 1 << 32, 1<<32 + 1, -1 << 31, -1<<32 + 1, math.MaxInt, math.MinInt, math.MinInt + 1} {
		l := some()
		l.Device = device
		checkBytes(t, l)
	}
	for bit := range 64 {
		l := some()
		l.Device = int(uint64(1) << bit)
		checkBytes(t, l)
		l.Number = 1 << (bit % 32)
		checkBytes(t, l)
	}
	for _, n := range []uint32{0, 1, 127, 128, 255, 256, 1<<16 - 1, 1 << 16, 1<<31 - 1, 1 << 31, 1<<32 - 2, 1<<32 - 1} {
		for _, gone := range []bool{false, true} {
			l := some()
			l.Number, l.Gone = n, gone
			checkBytes(t, l)
		}
	}
}

// Each bit of the keys and the signature stands in the bytes, at its place; the text has none of the signature.
func TestBytesOfBits(t *testing.T) {
	text := prekeys.Text(some())
	for bit := range 256 {
		l := some()
		l.Identity = turned(l.Identity, bit)
		checkBytes(t, l)
		l = some()
		l.Signed = turned(l.Signed, bit)
		checkBytes(t, l)
	}
	for bit := range 512 {
		l := some()
		l.Sig[bit/8] ^= 1 << (bit % 8)
		checkBytes(t, l)
		if !bytes.Equal(prekeys.Text(l), text) {
			t.Fatalf("bit %d of the signature stands in the text", bit)
		}
	}
}

func TestBytesDrawn(t *testing.T) {
	r := rand.New(rand.NewSource(2301))
	for range 2000 {
		l := api.Listing{Device: int(r.Uint64() >> r.Intn(64)), Identity: drawnKey(r), Signed: drawnKey(r), Number: r.Uint32() >> r.Intn(32), Gone: r.Intn(2) == 0}
		name := make([]byte, r.Intn(40))
		r.Read(name)
		l.Name = string(name)
		r.Read(l.Sig[:])
		checkBytes(t, l)
	}
}

// Bytes that no listing are, with the place and the reason.
func TestMisread(t *testing.T) {
	b := packByWords(some())
	key := "20" + strings.Repeat("07", 32)
	head := "0a01 61 11 0100000000000000 "
	mid := "1a" + key + "22" + key
	sig := "3a40" + strings.Repeat("09", 64)
	end := "2d 01000000 3000"
	if e := checkParse(t, unhex(t, head+mid+end+sig)); e != api.OK {
		t.Fatal(e)
	}
	misread(t, "no bytes", nil, 0, api.ErrSlots)
	misread(t, "one byte too few", b[:len(b)-1], 90, api.ErrCut)
	misread(t, "without the signature", b[:89], 89, api.ErrSlots)
	misread(t, "a byte more", append(slices.Clone(b), 0), len(b), api.ErrOrder)
	misread(t, "a field more", append(slices.Clone(b), 0x40, 0), len(b), api.ErrSlots)
	misread(t, "no name", unhex(t, "11 0100000000000000"+mid+end+sig), 0, api.ErrSlots)
	misread(t, "a name that is a number", unhex(t, "0801 11 0100000000000000"+mid+end+sig), 0, api.ErrKind)
	misread(t, "a device that is a number", unhex(t, "0a0161 1001"+mid+end+sig), 3, api.ErrKind)
	misread(t, "a device of four bytes", unhex(t, "0a0161 15 01000000"+mid+end+sig), 3, api.ErrKind)
	misread(t, "no device", unhex(t, "0a0161"+mid+end+sig), 3, api.ErrSlots)
	misread(t, "a short identity", unhex(t, head+"1a1f"+strings.Repeat("07", 31)+"22"+key+end+sig), 12, api.ErrRange)
	misread(t, "a long identity", unhex(t, head+"1a21"+strings.Repeat("07", 33)+"22"+key+end+sig), 12, api.ErrRange)
	misread(t, "a short key", unhex(t, head+"1a"+key+"221f"+strings.Repeat("07", 31)+end+sig), 46, api.ErrRange)
	misread(t, "a long key", unhex(t, head+"1a"+key+"2221"+strings.Repeat("07", 33)+end+sig), 46, api.ErrRange)
	misread(t, "a number of eight bytes", unhex(t, head+mid+"29 0100000000000000 3000"+sig), 80, api.ErrKind)
	misread(t, "a plain number", unhex(t, head+mid+"2801 3000"+sig), 80, api.ErrKind)
	misread(t, "a flag 2", unhex(t, head+mid+"2d 01000000 3002"+sig), 85, api.ErrRange)
	misread(t, "a flag of two bytes", unhex(t, head+mid+"2d 01000000 308100"+sig), 86, api.ErrNumber)
	misread(t, "a flag 257", unhex(t, head+mid+"2d 01000000 308102"+sig), 85, api.ErrRange)
	misread(t, "no flag", unhex(t, head+mid+"2d 01000000"+sig), 85, api.ErrSlots)
	misread(t, "a short signature", unhex(t, head+mid+end+"3a3f"+strings.Repeat("09", 63)), 87, api.ErrRange)
	misread(t, "a long signature", unhex(t, head+mid+end+"3a41"+strings.Repeat("09", 65)), 87, api.ErrRange)
	misread(t, "two names", unhex(t, "0a0161"+head+mid+end+sig), 3, api.ErrOrder)
	misread(t, "a name of a group", unhex(t, "0b"+head+mid+end+sig), 0, api.ErrType)
	long := some()
	long.Name = strings.Repeat("a", 4096)
	b = packByWords(long)
	if e := checkParse(t, b); e != api.OK {
		t.Error(e)
	}
	misread(t, "a name of 4097 bytes", slices.Concat([]byte{0x0a, 0x81, 0x20}, bytes.Repeat([]byte{'a'}, 4097), b[4099:]), 0, api.ErrRange)
	misread(t, "far too long", make([]byte, 1<<22+1), 0, api.ErrLong)
}

// One byte turned to each other value; cut at each place; with bytes put in and taken out at each place.
func TestSpoiled(t *testing.T) {
	found := map[api.Errno]int{}
	for _, gone := range []bool{true, false} {
		l := some()
		l.Gone = gone
		b := packByWords(l)
		for at := range b {
			for to := range 256 {
				c := slices.Clone(b)
				c[at] = byte(to)
				found[checkParse(t, c)]++
			}
			if e := checkParse(t, b[:at]); e == api.OK {
				t.Errorf("the first %d bytes are a listing", at)
			}
			for _, more := range []byte{0, 1, 0x11, 'a', 0x80, 0xff} {
				found[checkParse(t, slices.Insert(slices.Clone(b), at, more))]++
			}
			found[checkParse(t, slices.Delete(slices.Clone(b), at, at+1))]++
		}
		for to := range 256 {
			for _, behind := range [][]byte{{byte(to)}, {byte(to), 0}, {byte(to), 1, 0, 0, 0}} {
				if checkParse(t, slices.Concat(b, behind)) == api.OK {
					t.Errorf("with %x behind it it is taken", behind)
				}
			}
		}
	}
	for _, e := range []api.Errno{api.OK, api.ErrRange, api.ErrSlots, api.ErrKind, api.ErrCut, api.ErrOrder, api.ErrType, api.ErrNumber} {
		if found[e] == 0 {
			t.Errorf("nothing is answered %v", e)
		}
	}
}
