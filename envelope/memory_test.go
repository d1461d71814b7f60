package envelope_test

import (
	"bytes"
	"slices"
	"sync"
	"testing"

	"pawl/api"
	"pawl/envelope"
)

// What is handed in is neither changed nor kept, and what is given is new memory, room too.

// fill overwrites a list, room too.
func fill(b []byte) {
	b = b[:cap(b)]
	for i := range b {
		b[i] = 0xa5
	}
}

// checkMemory holds that of a call on one list, with room behind it.
func checkMemory(t *testing.T, what string, b []byte, call func(b []byte) []byte) {
	t.Helper()
	room := append(slices.Clone(b), 0x11, 0x22, 0x33)
	was := slices.Clone(room)
	got, other := call(room[:len(b)]), call(room[:len(b)])
	want := slices.Clone(got)
	if !bytes.Equal(room, was) || !bytes.Equal(got, other) {
		t.Fatalf("%s of %d bytes: what was handed in has changed, or the answer", what, len(b))
	}
	fill(got)
	if !bytes.Equal(room, was) || !bytes.Equal(other, want) {
		t.Fatalf("%s of %d bytes: something changes with the answer", what, len(b))
	}
	fill(room)
	if !bytes.Equal(other, want) {
		t.Fatalf("%s of %d bytes: the answer changes with what was handed in", what, len(b))
	}
}

func TestMemoryOfPadding(t *testing.T) {
	d := newDrawer(430)
	for _, n := range []int{0, 1, 20, 59, 60, 61, 68, 69, 124, 125, 252, 1000, mostPlain} {
		for _, v := range versions {
			plain := d.bytes(n)
			checkMemory(t, "Pad", plain, func(b []byte) []byte {
				got, e := envelope.Pad(v, b)
				if e != api.OK {
					t.Errorf("Pad(%d, of %d bytes): %v", v, n, e)
				}
				return got
			})
			body := bodyByWords(v, plain)
			checkMemory(t, "Unpad", body, func(b []byte) []byte {
				got, e := envelope.Unpad(v, b)
				if e != api.OK {
					t.Errorf("Unpad(%d, of %d bytes): %v", v, n, e)
				}
				return got
			})
			body[len(body)-1]++
			checkMemory(t, "Unpad of what is refused", body, func(b []byte) []byte {
				got, _ := envelope.Unpad(v, b)
				return got
			})
		}
	}
	checkMemory(t, "Pad of what is refused", make([]byte, mostPlain+1), func(b []byte) []byte {
		got, _ := envelope.Pad(1, b)
		return got
	})
}

func TestMemoryOfHeaders(t *testing.T) {
	d := newDrawer(431)
	for range 300 {
		h := d.header()
		one, other := envelope.PackHeader(h), envelope.PackHeader(h)
		fill(one)
		if !bytes.Equal(other, headerByWords(h)) {
			t.Fatalf("%v changes with another answer: %x", h, other)
		}
		b := headerByWords(h)
		if d.Intn(2) == 0 {
			b = d.spoil(b, 0, 34, 39)
		}
		checkMemory(t, "ParseHeader", b, func(b []byte) []byte {
			h, _ := envelope.ParseHeader(b)
			return headerByWords(h)
		})
	}
}

// roomy is e with lists that have room behind them; the lists are those, room too.
func roomy(e api.Envelope) (api.Envelope, [][]byte) {
	header, body := append(slices.Clone(e.Header), 0x11, 0x22), append(slices.Clone(e.Body), 0x33, 0x44)
	e.Header, e.Body = header[:len(e.Header)], body[:len(e.Body)]
	return e, [][]byte{header, body}
}

func TestMemoryOfPack(t *testing.T) {
	d := newDrawer(432)
	for i := range 600 {
		v := 1 + d.Intn(2)
		e := d.envelope(v, d.box(v))
		if i%4 == 0 {
			e = d.twist(e)
		}
		want, f := packByWords(e)
		in, lists := roomy(e)
		was := [][]byte{slices.Clone(lists[0]), slices.Clone(lists[1])}
		one, err := envelope.Pack(in)
		other, _ := envelope.Pack(in)
		checkFault(t, "Pack", err, f)
		fill(one)
		if !same(in, e) || !bytes.Equal(lists[0], was[0]) || !bytes.Equal(lists[1], was[1]) {
			t.Fatalf("version %d, %d bytes: what was handed in has changed", v, len(e.Body))
		}
		fill(lists[0])
		fill(lists[1])
		if !bytes.Equal(other, want) {
			t.Fatalf("version %d, %d bytes: the answer has changed", v, len(e.Body))
		}
	}
}

func TestMemoryOfParse(t *testing.T) {
	d := newDrawer(433)
	for i := range 600 {
		v := 1 + d.Intn(2)
		e := d.envelope(v, d.box(v))
		b := bytesByWords(e)
		if i%4 == 0 {
			b = d.spoil(b, 0, 2, 20, 82)
		}
		want, f := parseByWords(t, slices.Clone(b))
		room := append(slices.Clone(b), 0x11, 0x22, 0x33)
		was := slices.Clone(room)
		one, err := envelope.Parse(room[:len(b)])
		other, _ := envelope.Parse(room[:len(b)])
		checkFault(t, "Parse", err, f)
		if !bytes.Equal(room, was) || !same(one, want) {
			t.Fatalf("version %d, %d bytes: what was handed in has changed, or the answer", v, len(e.Body))
		}
		fill(one.Header)
		if !bytes.Equal(one.Body, want.Body) {
			t.Fatalf("version %d, %d bytes: the body changes with the header", v, len(e.Body))
		}
		copy(one.Header, want.Header)
		fill(one.Body)
		if !bytes.Equal(one.Header, want.Header) {
			t.Fatalf("version %d, %d bytes: the header changes with the body", v, len(e.Body))
		}
		if !bytes.Equal(room, was) {
			t.Fatalf("version %d, %d bytes: what was handed in changes with the answer", v, len(e.Body))
		}
		fill(room)
		if !same(other, want) {
			t.Fatalf("version %d, %d bytes: one answer changes with another, or with what was handed in", v, len(e.Body))
		}
	}
}

// From arguments alone: whatever goes on beside it.
func TestAtOnce(t *testing.T) {
	var all sync.WaitGroup
	for i := range 8 {
		all.Go(func() {
			d := newDrawer(int64(440 + i))
			for range 200 {
				v := 1 + d.Intn(2)
				plain := d.bytes(d.Intn(300))
				body, e := envelope.Pad(v, plain)
				in := d.envelope(v, 0)
				in.Body = append(body, d.bytes(16)...)
				b, err := envelope.Pack(in)
				out, err2 := envelope.Parse(b)
				length, _ := envelope.Length(v, len(plain))
				if e != api.OK || err != nil || err2 != nil || !same(in, out) || length != len(b) {
					t.Errorf("version %d, %d bytes: %v, %v, %v, %d, %d", v, len(plain), e, err, err2, len(b), length)
					return
				}
				back, e := envelope.Unpad(v, out.Body[:len(out.Body)-16])
				h := d.header()
				again, err := envelope.ParseHeader(envelope.PackHeader(h))
				if e != api.OK || !bytes.Equal(back, plain) || err != nil || again != h {
					t.Errorf("version %d, %d bytes: %v, %v", v, len(plain), e, err)
				}
			}
		})
	}
	all.Wait()
}
