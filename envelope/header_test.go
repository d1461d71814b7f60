package envelope_test

import (
	"bytes"
	"slices"
	"strings"
	"testing"

	"pawl/api"
	"pawl/envelope"
)

// P10.5, and of P10.8 and P2 what is of headers

func sevens() api.Header {
	h := api.Header{Prev: 1, N: 256}
	for i := range h.Public {
		h.Public[i] = 7
	}
	return h
}

// Example 4.
func TestHeaderExamples(t *testing.T) {
	want := un("0a 20" + strings.Repeat("07", 32) + "15 01 00 00 00 1d 00 01 00 00")
	if b := envelope.PackHeader(sevens()); !bytes.Equal(b, want) || len(b) != api.HeaderSize {
		t.Errorf("PackHeader: %x", b)
	}
	if h, err := envelope.ParseHeader(want); err != nil || h != sevens() {
		t.Errorf("ParseHeader: %v, %v", h, err)
	}
	misreadHeader(t, want[:43], 40, api.ErrCut)
	misreadHeader(t, nil, 0, api.ErrSlots)
}

func misreadHeader(t *testing.T, b []byte, at int, why api.Errno) {
	t.Helper()
	h, err := envelope.ParseHeader(b)
	checkFault(t, "ParseHeader", err, &api.Fault{At: at, Why: why})
	if h != (api.Header{}) {
		t.Errorf("ParseHeader(%x): %v beside %v", b, h, err)
	}
	checkHeader(t, b)
}

// Faults of each kind, with their places as the chapters' words give them.
func TestHeaderFaults(t *testing.T) {
	key := "0a 20" + strings.Repeat("07", 32)
	for _, x := range []struct {
		b   string
		at  int
		why api.Errno
	}{
		{"0a", 1, api.ErrCut},
		{"0a 20 07", 1, api.ErrCut},
		{key, 34, api.ErrSlots},
		{key + "15 01 00 00", 35, api.ErrCut},
		{key + "15 01 00 00 00", 39, api.ErrSlots},
		{key + "15 01 00 00 00 1d", 40, api.ErrCut},
		{key + "15 01 00 00 00 1d 00 01 00 00 1d 00 00 00 00", 44, api.ErrOrder},
		{key + "15 01 00 00 00 1d 00 01 00 00 20 00", 44, api.ErrSlots},
		{key + "15 01 00 00 00 1d 00 01 00 00 00", 44, api.ErrOrder},
		{key + "15 01 00 00 00 1d 00 01 00 00 23", 44, api.ErrType},
		{key + "15 01 00 00 00 1d 00 01 00 00 20", 45, api.ErrCut},
		{key + "15 01 00 00 00 18 00", 39, api.ErrKind},
		{key + "15 01 00 00 00 25 00 01 00 00", 39, api.ErrSlots},
		{key + "10 01 1d 00 01 00 00", 34, api.ErrKind},
		{key + "1d 01 00 00 00", 34, api.ErrSlots},
		{key + "11 01 00 00 00 00 00 00 00 1d 00 01 00 00", 34, api.ErrKind},
		{"08 01 15 01 00 00 00 1d 00 01 00 00", 0, api.ErrKind},
		{"15 01 00 00 00 1d 00 01 00 00", 0, api.ErrSlots},
		{"0a 1f" + strings.Repeat("07", 31) + "15 01 00 00 00 1d 00 01 00 00", 0, api.ErrRange},
		{"0a 21" + strings.Repeat("07", 33) + "15 01 00 00 00 1d 00 01 00 00", 0, api.ErrRange},
		{"0a 00 15 01 00 00 00 1d 00 01 00 00", 0, api.ErrRange},
		{"0a a0 00" + strings.Repeat("07", 32), 1, api.ErrNumber},
		{"8a 00 20" + strings.Repeat("07", 32), 0, api.ErrNumber},
	} {
		misreadHeader(t, un(x.b), x.at, x.why)
	}
	misreadHeader(t, make([]byte, 1<<22+1), 0, api.ErrLong)
}

// There and back, at the counters' ends and drawn.
func TestHeaderThereAndBack(t *testing.T) {
	d := newDrawer(405)
	counts := []uint32{0, 1, 127, 128, 255, 256, 1 << 16, 1<<31 - 1, 1 << 31, 1<<32 - 2, 1<<32 - 1}
	hold := func(h api.Header) {
		t.Helper()
		b := envelope.PackHeader(h)
		if !bytes.Equal(b, headerByWords(h)) || len(b) != 44 {
			t.Fatalf("PackHeader(%v): %x", h, b)
		}
		if back, err := envelope.ParseHeader(b); err != nil || back != h {
			t.Fatalf("ParseHeader(%x): %v, %v, not %v", b, back, err, h)
		}
	}
	hold(api.Header{})
	for _, prev := range counts {
		for _, n := range counts {
			h := d.header()
			h.Prev, h.N = prev, n
			hold(h)
		}
	}
	for range 5000 {
		hold(d.header())
	}
}

// Each byte of a header changed to each other one: what a field holds gives another header, all else a fault. Cut at each place, and with each byte behind it.
func TestHeaderSpoiled(t *testing.T) {
	b := headerByWords(newDrawer(406).header())
	for at := range b {
		holds := at >= 2 && at < 34 || at >= 35 && at < 39 || at >= 40
		for x := range 256 {
			other := slices.Clone(b)
			other[at] = byte(x)
			if e := checkHeader(t, other); (e == api.OK) != (holds || bytes.Equal(other, b)) {
				t.Errorf("%02x at %d: %v", x, at, e)
			}
		}
		if checkHeader(t, b[:at]) == api.OK {
			t.Errorf("cut at %d it is taken", at)
		}
	}
	for x := range 256 {
		for _, behind := range [][]byte{{byte(x)}, {byte(x), 0}, {byte(x), 1, 0, 0, 0}} {
			if checkHeader(t, append(slices.Clone(b), behind...)) == api.OK {
				t.Errorf("with %x behind it it is taken", behind)
			}
		}
	}
}

func TestHeaderOfDrawn(t *testing.T) {
	d := newDrawer(407)
	seen := map[api.Errno]int{}
	for a := range 256 {
		for b := range 256 {
			checkHeader(t, []byte{byte(a), byte(b)})
		}
	}
	for range 20000 {
		b := make([]byte, d.Intn(50))
		d.Read(b)
		checkHeader(t, b)
		b = headerByWords(d.header())
		seen[checkHeader(t, d.spoil(b, 0, 34, 39, 42))]++
		seen[checkHeader(t, d.spoil(d.spoil(b, 0, 34, 39, 42), 0))]++
	}
	for _, why := range []api.Errno{api.OK, api.ErrNumber, api.ErrOrder, api.ErrType, api.ErrCut, api.ErrSlots, api.ErrRange} {
		if seen[why] < 20 {
			t.Errorf("%v came %d times", why, seen[why])
		}
	}
}
