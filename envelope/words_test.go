package envelope_test

import (
	"bytes"
	"encoding/binary"
	"encoding/hex"
	"errors"
	"math/rand"
	"slices"
	"strings"
	"testing"

	"pawl/api"
	"pawl/envelope"
	"pawl/schema"
	"pawl/wire"
)

// What the chapter says, done as it is said, by layers 7 and 8 and by Go's own library; and what several tests draw and hold against each other.

const mostPlain = 1048576

var versions = []int{1, 2}

// unknown are versions that there are not, those among them that become 1 or 2 if bits are lost.
var unknown = []int{-1 << 63, -1<<63 + 1, -1 << 32, -2, -1, 0, 3, 4, 10, 127, 128, 129, 256, 257, 258, 1<<16 + 1, 1<<32 + 1, 1<<32 + 2, 1<<63 - 1}

// bucketsByWords are those of a version, rising, up to one beyond that of any plain text.
func bucketsByWords(version int) []int {
	var out []int
	if version == 1 {
		for n := 64; n <= 1<<22; n += n {
			out = append(out, n)
		}
		return out
	}
	for e := 3; e <= 18; e++ {
		for m := 8; m <= 15; m++ {
			n := m
			for range e {
				n *= 2
			}
			out = append(out, n)
		}
	}
	return out
}

// bucketByWords is P10.1.
func bucketByWords(version, n int) (int, api.Errno) {
	if version != 1 && version != 2 {
		return 0, api.ErrVersion
	}
	if n < 0 {
		return 0, api.ErrArg
	}
	if n > mostPlain {
		return 0, api.ErrLong
	}
	for _, b := range bucketsByWords(version) {
		if b >= n+4 {
			return b, api.OK
		}
	}
	panic("no bucket")
}

// lastByWords is the greatest bucket that a plain text can have.
func lastByWords(version int) int {
	b, _ := bucketByWords(version, mostPlain)
	return b
}

// boxByWords tells whether a body's box can have so many bytes.
func boxByWords(version, n int) bool {
	return n-16 <= lastByWords(version) && slices.Contains(bucketsByWords(version), n-16)
}

// bodyByWords is a body, piece by piece.
func bodyByWords(version int, plain []byte) []byte {
	size, e := bucketByWords(version, len(plain))
	if e != api.OK {
		return nil
	}
	out := binary.LittleEndian.AppendUint32(nil, uint32(len(plain)))
	out = append(out, plain...)
	return append(out, make([]byte, size-len(out))...)
}

// unpadByWords is P10.4.
func unpadByWords(version int, b []byte) ([]byte, api.Errno) {
	if version != 1 && version != 2 {
		return nil, api.ErrVersion
	}
	if len(b) < 4 {
		return nil, api.ErrPadding
	}
	n := uint64(binary.LittleEndian.Uint32(b))
	if n > uint64(len(b)-4) || n > mostPlain || !bytes.Equal(bodyByWords(version, b[4:4+n]), b) {
		return nil, api.ErrPadding
	}
	return b[4 : 4+n], api.OK
}

func headerSlots() []api.Slot {
	return []api.Slot{{No: 1, Kind: api.KBytes, Least: 32, Most: 32}, {No: 2, Kind: api.KFixed32, Most: 4294967295}, {No: 3, Kind: api.KFixed32, Most: 4294967295}}
}

func envelopeSlots(version int) []api.Slot {
	v, most := uint64(version), uint64(2097168)
	if version == 2 {
		most = 1179664
	}
	return []api.Slot{{No: 1, Kind: api.KNum, Least: v, Most: v}, {No: 2, Kind: api.KBytes, Least: 16, Most: 16}, {No: 3, Kind: api.KBytes, Least: 60, Most: 60}, {No: 4, Kind: api.KBytes, Least: 80, Most: most}}
}

// decodeByWords is what chapter 8's Decode answers.
func decodeByWords(t *testing.T, slots []api.Slot, b []byte) (api.Value, *api.Fault) {
	t.Helper()
	codec, e := schema.Compile(slots)
	if e != api.OK {
		t.Fatalf("the schema: %v", e)
	}
	v, err := codec.Decode(b)
	var f *api.Fault
	errors.As(err, &f)
	return v, f
}

// headerByWords is a header's bytes, field by field.
func headerByWords(h api.Header) []byte {
	out := append([]byte{0x0a, 0x20}, h.Public[:]...)
	out = binary.LittleEndian.AppendUint32(append(out, 0x15), h.Prev)
	return binary.LittleEndian.AppendUint32(append(out, 0x1d), h.N)
}

// readHeaderByWords is ParseHeader of P10.5.
func readHeaderByWords(t *testing.T, b []byte) (api.Header, *api.Fault) {
	t.Helper()
	v, f := decodeByWords(t, headerSlots(), b)
	if f != nil {
		return api.Header{}, f
	}
	return api.Header{Public: api.Key(v.Parts[0].Data), Prev: uint32(v.Parts[1].Num), N: uint32(v.Parts[2].Num)}, nil
}

// bytesByWords is what an envelope's bytes would be, field by field, whatever it holds.
func bytesByWords(e api.Envelope) []byte {
	out := binary.AppendUvarint([]byte{0x08}, uint64(e.Version))
	for i, data := range [][]byte{e.Nonce[:], e.Header, e.Body} {
		out = binary.AppendUvarint(append(out, byte(0x12+8*i)), uint64(len(data)))
		out = append(out, data...)
	}
	return out
}

// packByWords is P10.6.
func packByWords(e api.Envelope) ([]byte, *api.Fault) {
	if e.Version != 1 && e.Version != 2 {
		return nil, &api.Fault{Line: 1, At: 1, Why: api.ErrVersion}
	}
	if len(e.Header) != 60 {
		return nil, &api.Fault{Line: 1, At: 3, Why: api.ErrParts}
	}
	if !boxByWords(e.Version, len(e.Body)) {
		return nil, &api.Fault{Line: 1, At: 4, Why: api.ErrParts}
	}
	return bytesByWords(e), nil
}

// parseByWords is P10.7.
func parseByWords(t *testing.T, b []byte) (api.Envelope, *api.Fault) {
	t.Helper()
	wrong := func(at int, why api.Errno) (api.Envelope, *api.Fault) {
		return api.Envelope{}, &api.Fault{At: at, Why: why}
	}
	fields, at, e := wire.Decode(b)
	if e != api.OK {
		return wrong(at, e)
	}
	if len(fields) == 0 {
		return wrong(len(b), api.ErrSlots)
	}
	if fields[0].No != 1 {
		return wrong(0, api.ErrSlots)
	}
	if fields[0].Type != api.WireNumber {
		return wrong(0, api.ErrKind)
	}
	if fields[0].Num != 1 && fields[0].Num != 2 {
		return wrong(0, api.ErrVersion)
	}
	version := int(fields[0].Num)
	v, f := decodeByWords(t, envelopeSlots(version), b)
	if f != nil {
		return wrong(f.At, f.Why)
	}
	body := v.Parts[3].Data
	if !boxByWords(version, len(body)) {
		return wrong(len(b)-len(body)-len(binary.AppendUvarint(nil, uint64(len(body))))-1, api.ErrParts)
	}
	return api.Envelope{Version: version, Nonce: api.Nonce(v.Parts[1].Data), Header: v.Parts[2].Data, Body: body}, nil
}

// same takes nil and empty lists as alike.
func same(a, b api.Envelope) bool {
	return a.Version == b.Version && a.Nonce == b.Nonce && bytes.Equal(a.Header, b.Header) && bytes.Equal(a.Body, b.Body)
}

func zero(e api.Envelope) bool {
	return e.Version == 0 && e.Nonce == api.Nonce{} && e.Header == nil && e.Body == nil
}

// checkFault holds an error against a fault, nil against nil.
func checkFault(t *testing.T, what string, err error, want *api.Fault) {
	t.Helper()
	if want == nil {
		if err != nil {
			t.Fatalf("%s: %v, not nil", what, err)
		}
		return
	}
	f, ok := err.(*api.Fault)
	if !ok || f == nil || *f != *want || !errors.Is(err, want.Why) {
		t.Fatalf("%s: %v, not %v", what, err, want)
	}
}

// checkUnpad holds Unpad against the words, and what it takes against Pad (P10.8); it answers the reason why b is refused.
func checkUnpad(t *testing.T, version int, b []byte) api.Errno {
	t.Helper()
	want, why := unpadByWords(version, b)
	got, e := envelope.Unpad(version, b)
	if e != why || !bytes.Equal(got, want) || e != api.OK && got != nil {
		t.Fatalf("Unpad(%d, %d bytes %.20x): %.20x, %v, not %.20x, %v", version, len(b), b, got, e, want, why)
	}
	if e == api.OK {
		if again, e := envelope.Pad(version, got); e != api.OK || !bytes.Equal(again, b) {
			t.Fatalf("Pad of what Unpad(%d, %.20x) answers: %.20x, %v", version, b, again, e)
		}
	}
	return e
}

// checkHeader holds ParseHeader against the words, and what it takes against PackHeader (P10.8); it answers the reason why b is refused.
func checkHeader(t *testing.T, b []byte) api.Errno {
	t.Helper()
	want, f := readHeaderByWords(t, b)
	got, err := envelope.ParseHeader(b)
	checkFault(t, "ParseHeader", err, f)
	if got != want {
		t.Fatalf("ParseHeader(%x): %v, not %v", b, got, want)
	}
	if f != nil {
		return f.Why
	}
	if again := envelope.PackHeader(got); !bytes.Equal(again, b) {
		t.Fatalf("PackHeader of what ParseHeader(%x) answers: %x", b, again)
	}
	return api.OK
}

// checkPack holds Pack against the words, and what it makes against Parse (P10.8); it answers what is wrong with e.
func checkPack(t *testing.T, e api.Envelope) *api.Fault {
	t.Helper()
	want, f := packByWords(e)
	got, err := envelope.Pack(e)
	checkFault(t, "Pack", err, f)
	if !bytes.Equal(got, want) || f != nil && got != nil {
		t.Fatalf("Pack, version %d, header %d, body %d: %.100x, not %.100x", e.Version, len(e.Header), len(e.Body), got, want)
	}
	if f == nil {
		if back, err := envelope.Parse(got); err != nil || !same(back, e) {
			t.Fatalf("Parse of what Pack makes, version %d, body %d: version %d, header %d, body %d, %v", e.Version, len(e.Body), back.Version, len(back.Header), len(back.Body), err)
		}
	}
	return f
}

// checkParse holds Parse against the words, and what it takes against Pack (P10.8); it answers the reason why b is refused.
func checkParse(t *testing.T, b []byte) api.Errno {
	t.Helper()
	want, f := parseByWords(t, b)
	got, err := envelope.Parse(b)
	checkFault(t, "Parse", err, f)
	if !same(got, want) || f != nil && !zero(got) {
		t.Fatalf("Parse(%.100x): version %d, header %x, body %.20x, not version %d, header %x, body %.20x", b, got.Version, got.Header, got.Body, want.Version, want.Header, want.Body)
	}
	if f != nil {
		return f.Why
	}
	if again, err := envelope.Pack(got); err != nil || !bytes.Equal(again, b) {
		t.Fatalf("Pack of what Parse(%.100x) answers: %.100x, %v", b, again, err)
	}
	return api.OK
}

// edges are numbers of a plain text's bytes at and about every bucket's edge in both versions, and at the ends of all.
func edges() []int {
	out := []int{0, 1, 2, mostPlain - 1, mostPlain}
	for _, v := range versions {
		for _, b := range bucketsByWords(v) {
			for n := b - 7; n <= b+1; n++ {
				if n <= mostPlain {
					out = append(out, n)
				}
			}
		}
	}
	slices.Sort(out)
	return slices.Compact(out)
}

// un reads hexadecimal digits, blanks among them.
func un(s string) []byte {
	b, err := hex.DecodeString(strings.ReplaceAll(s, " ", ""))
	if err != nil {
		panic(err)
	}
	return b
}

type drawer struct{ *rand.Rand }

func newDrawer(seed int64) drawer { return drawer{rand.New(rand.NewSource(seed))} }

// bytes are n of them, none 0, so that no plain text looks like padding.
func (d drawer) bytes(n int) []byte {
	b := make([]byte, n)
	d.Read(b)
	for i := range b {
		b[i] |= byte(1 << (i % 8))
	}
	return b
}

func (d drawer) header() api.Header {
	h := api.Header{Prev: d.Uint32() >> d.Intn(32), N: d.Uint32() >> d.Intn(32)}
	d.Read(h.Public[:])
	return h
}

// envelope is one with a body's box of so many bytes.
func (d drawer) envelope(version, box int) api.Envelope {
	e := api.Envelope{Version: version, Header: d.bytes(60), Body: d.bytes(box)}
	d.Read(e.Nonce[:])
	return e
}

// box is how many bytes some short body's box has.
func (d drawer) box(version int) int {
	return bucketsByWords(version)[d.Intn(4)] + 16
}

// spoil changes a byte or a bit, turns two about, cuts, or puts something behind; mostly where fields begin.
func (d drawer) spoil(b []byte, heads ...int) []byte {
	if len(b) == 0 {
		return []byte{byte(d.Intn(256))}
	}
	b = slices.Clone(b)
	at, other := d.Intn(len(b)), d.Intn(len(b))
	if d.Intn(4) > 0 {
		at = min(heads[d.Intn(len(heads))]+d.Intn(2), len(b)-1)
	}
	switch d.Intn(6) {
	case 0:
		b[at] = byte(d.Intn(256))
	case 1:
		b[at] += byte(d.Intn(3) - 1)
	case 2:
		b[at] ^= 1 << d.Intn(8)
	case 3:
		b = b[:at]
	case 4:
		b = append(b, byte(d.Intn(256)), byte(d.Intn(256)))
	case 5:
		b[at], b[other] = b[other], b[at]
	}
	return b
}
