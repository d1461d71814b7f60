package wire_test

import (
	"bytes"
	"encoding/binary"
	"encoding/hex"
	"math/big"
	"math/rand"
	"slices"
	"testing"

	"pawl/api"
	"pawl/wire"
)

// What the chapter says, done as it is said, by great numbers and by Go's own library and by nothing of the program; and what several tests draw and hold against each other.

// The limits, as the document has them.
const (
	mostNo     = 1<<29 - 1
	mostFields = 64
	mostBytes  = 1 << 22
	mostItems  = 4096
)

// The four wire types, as the document has them.
const (
	number  = 0
	fixed64 = 1
	byBytes = 2
	fixed32 = 5
)

// formByWords is a number's base 128 digits, the lowest first, with 128 added to each but the last.
func formByWords(n uint64) []byte {
	rest, base, digit := new(big.Int).SetUint64(n), big.NewInt(128), new(big.Int)
	var out []byte
	for {
		rest.DivMod(rest, base, digit)
		out = append(out, byte(digit.Int64()))
		if rest.Sign() == 0 {
			break
		}
	}
	for i := range len(out) - 1 {
		out[i] += 128
	}
	return out
}

// numberByWords looks for the first byte below 128 among at most ten, and only then asks what the bytes come to.
func numberByWords(b []byte, at int) (uint64, int, api.Errno) {
	if at < 0 || at > len(b) {
		return 0, 0, api.ErrArg
	}
	looked := b[at:min(len(b), at+10)]
	k := slices.IndexFunc(looked, func(x byte) bool { return x < 128 })
	switch {
	case k < 0 && len(looked) < 10:
		return 0, 0, api.ErrCut
	case k < 0, k == 9 && looked[9] > 1, k > 0 && looked[k] == 0:
		return 0, 0, api.ErrNumber
	}
	sum := new(big.Int)
	for i := k; i >= 0; i-- {
		sum.Mul(sum, big.NewInt(128))
		sum.Add(sum, big.NewInt(int64(looked[i]%128)))
	}
	return sum.Uint64(), at + k + 1, api.OK
}

// encodeByWords is the bytes of fields that may be encoded.
func encodeByWords(l []api.Field) []byte {
	var out []byte
	for _, f := range l {
		out = binary.AppendUvarint(out, 8*uint64(f.No)+uint64(f.Type))
		switch f.Type {
		case number:
			out = binary.AppendUvarint(out, f.Num)
		case fixed64:
			out = binary.LittleEndian.AppendUint64(out, f.Num)
		case byBytes:
			out = binary.AppendUvarint(out, uint64(len(f.Data)))
			out = append(out, f.Data...)
		case fixed32:
			out = binary.LittleEndian.AppendUint32(out, uint32(f.Num))
		}
	}
	return out
}

// whole is a field that stands whole, and where.
type whole struct {
	at, end int
	f       api.Field
}

// decodeByWords is the fields that stand whole up to the first error, its place and it.
func decodeByWords(b []byte) (l []whole, at int, e api.Errno) {
	if len(b) > mostBytes {
		return nil, 0, api.ErrLong
	}
	p, ahead := 0, uint64(0)
	for p < len(b) {
		n, q, e := numberByWords(b, p)
		if e != api.OK {
			return l, p, e
		}
		no, kind := n/8, n%8
		if len(l) >= mostFields {
			return l, p, api.ErrLong
		}
		if no == 0 || no > mostNo || no <= ahead {
			return l, p, api.ErrOrder
		}
		f, end := api.Field{No: int(no), Type: int(kind)}, 0
		rest := b[q:]
		switch kind {
		case number:
			if f.Num, end, e = numberByWords(b, q); e != api.OK {
				return l, q, e
			}
		case fixed64, fixed32:
			count := map[uint64]int{fixed64: 8, fixed32: 4}[kind]
			if len(rest) < count {
				return l, q, api.ErrCut
			}
			f.Num = binary.LittleEndian.Uint64(append(slices.Clone(rest[:count]), 0, 0, 0, 0))
			end = q + count
		case byBytes:
			count, from, e := numberByWords(b, q)
			if e != api.OK {
				return l, q, e
			}
			if count > uint64(len(b[from:])) {
				return l, q, api.ErrCut
			}
			end = from + int(count)
			f.Data = b[from:end]
		default:
			return l, p, api.ErrType
		}
		l = append(l, whole{p, end, f})
		p, ahead = end, no
	}
	return l, 0, api.OK
}

// splitByWords is the items of a list, or the place of the first error, and it.
func splitByWords(b []byte) ([][]byte, int, api.Errno) {
	if len(b) > mostBytes {
		return nil, 0, api.ErrLong
	}
	var out [][]byte
	for p := 0; p < len(b); {
		if len(out) >= mostItems {
			return nil, p, api.ErrLong
		}
		count, from, e := numberByWords(b, p)
		if e != api.OK {
			return nil, p, e
		}
		if count > uint64(len(b[from:])) {
			return nil, p, api.ErrCut
		}
		out = append(out, b[from:from+int(count)])
		p = from + int(count)
	}
	return out, 0, api.OK
}

// joinByWords is the bytes of items, however many.
func joinByWords(items [][]byte) []byte {
	var out []byte
	for _, item := range items {
		out = append(binary.AppendUvarint(out, uint64(len(item))), item...)
	}
	return out
}

func sameField(a, b api.Field) bool {
	return a.No == b.No && a.Type == b.Type && a.Num == b.Num && bytes.Equal(a.Data, b.Data)
}

func sameFields(a, b []api.Field) bool { return slices.EqualFunc(a, b, sameField) }

func fieldsOf(l []whole) []api.Field {
	var out []api.Field
	for _, w := range l {
		out = append(out, w.f)
	}
	return out
}

// checkDecode holds Decode and Fields of b against the words.
func checkDecode(t *testing.T, b []byte) {
	t.Helper()
	want, wantAt, why := decodeByWords(b)
	l, at, e := wire.Decode(b)
	if e != why || at != wantAt {
		t.Errorf("Decode(%.60x): error %v at %d, not %v at %d", b, e, at, why, wantAt)
	}
	if why != api.OK && l != nil {
		t.Errorf("Decode(%.60x): %v beside an error", b, l)
	}
	if why == api.OK && !sameFields(l, fieldsOf(want)) {
		t.Errorf("Decode(%.60x): %v, not %v", b, l, want)
	}
	checkThrough(t, b, want)
}

// checkThrough holds that Fields goes through just these.
func checkThrough(t *testing.T, b []byte, want []whole) {
	t.Helper()
	i := 0
	for at, f := range wire.Fields(b) {
		if i >= len(want) || at != want[i].at || !sameField(f, want[i].f) {
			t.Errorf("Fields(%.60x): as the %dth %v at %d, of %v", b, i, f, at, want)
			return
		}
		i++
	}
	if i != len(want) {
		t.Errorf("Fields(%.60x): %d fields, not %v", b, i, want)
	}
}

// checkNumber holds Number against the words.
func checkNumber(t *testing.T, b []byte, at int) {
	t.Helper()
	want, wantEnd, why := numberByWords(b, at)
	if n, end, e := wire.Number(b, at); n != want || end != wantEnd || e != why {
		t.Errorf("Number(%x, %d): %d, %d, %v, not %d, %d, %v", b, at, n, end, e, want, wantEnd, why)
	}
}

// checkSplit holds Split against the words.
func checkSplit(t *testing.T, b []byte) {
	t.Helper()
	want, wantAt, why := splitByWords(b)
	items, at, e := wire.Split(b)
	if at != wantAt || e != why || !slices.EqualFunc(items, want, bytes.Equal) || why != api.OK && items != nil {
		t.Errorf("Split(%.60x): %.60x, %d, %v, not %.60x, %d, %v", b, items, at, e, want, wantAt, why)
	}
}

func encoded(t *testing.T, l []api.Field) []byte {
	t.Helper()
	b, e := wire.Encode(l)
	if e != api.OK {
		t.Fatalf("Encode(%v): %v", l, e)
	}
	return b
}

func joined(t *testing.T, items [][]byte) []byte {
	t.Helper()
	b, e := wire.Join(items)
	if e != api.OK {
		t.Fatalf("Join of %d items: %v", len(items), e)
	}
	return b
}

func drawn(r *rand.Rand, n int) []byte {
	out := make([]byte, n)
	r.Read(out)
	return out
}

// drawnNumber is as often short as long.
func drawnNumber(r *rand.Rand) uint64 { return r.Uint64() >> r.Intn(64) }

// drawnField is a right field of that number.
func drawnField(r *rand.Rand, no int) api.Field {
	switch r.Intn(4) {
	case 0:
		return api.Field{No: no, Type: number, Num: drawnNumber(r)}
	case 1:
		return api.Field{No: no, Type: fixed64, Num: drawnNumber(r)}
	case 2:
		return api.Field{No: no, Type: fixed32, Num: drawnNumber(r) % (1 << 32)}
	}
	return api.Field{No: no, Type: byBytes, Data: drawn(r, r.Intn(1+r.Intn(200)))}
}

// drawnFields is a right message of so many fields.
func drawnFields(r *rand.Rand, count int) []api.Field {
	nos := map[int]int{}
	for len(nos) < count {
		nos[1+r.Intn(mostNo>>r.Intn(23))] = 0
	}
	var order []int
	for no := range nos {
		order = append(order, no)
	}
	slices.Sort(order)
	var out []api.Field
	for _, no := range order {
		out = append(out, drawnField(r, no))
	}
	return out
}

func fill(b []byte) {
	for i := range b {
		b[i] = 0xa5
	}
}

func un(s string) []byte {
	b, err := hex.DecodeString(s)
	if err != nil {
		panic(err)
	}
	return b
}
