package envelope_test

import (
	"bytes"
	"slices"
	"testing"

	"pawl/api"
	"pawl/envelope"
)

// P10.6, and of P10.8 and P2 what is of envelopes as values

// Example 5, and an envelope's bytes worked by hand.
func TestPackExamples(t *testing.T) {
	e := api.Envelope{Version: 1, Header: make([]byte, 60), Body: make([]byte, 88)}
	refuse(t, e, 4, api.ErrParts)
	e.Version = 2
	if b, err := envelope.Pack(e); err != nil || len(b) != 172 {
		t.Errorf("Pack: %d bytes, %v", len(b), err)
	}
	for _, v := range unknown {
		refuse(t, api.Envelope{Version: v}, 1, api.ErrVersion)
		refuse(t, api.Envelope{Version: v, Header: make([]byte, 60), Body: make([]byte, 80)}, 1, api.ErrVersion)
	}
	e = api.Envelope{Version: 1, Nonce: api.Nonce{0xaa, 15: 0xbb}, Header: bytes.Repeat([]byte{0xcc}, 60), Body: bytes.Repeat([]byte{0xdd}, 144)}
	want := slices.Concat(un("08 01 12 10 aa"), make([]byte, 14), un("bb 1a 3c"), e.Header, un("22 90 01"), e.Body)
	if b, err := envelope.Pack(e); err != nil || !bytes.Equal(b, want) || len(b) != 229 {
		t.Errorf("Pack: %x, %v", b, err)
	}
}

func refuse(t *testing.T, e api.Envelope, at int, why api.Errno) {
	t.Helper()
	b, err := envelope.Pack(e)
	checkFault(t, "Pack", err, &api.Fault{Line: 1, At: at, Why: why})
	if b != nil {
		t.Errorf("%x beside %v", b, err)
	}
}

// Headers of all lengths about the right one, alone and with other parts wrong beside them: the first part is told.
func TestPackOrder(t *testing.T) {
	d := newDrawer(408)
	for _, v := range versions {
		good := d.envelope(v, 80)
		for n := range 200 {
			e := good
			e.Header = d.bytes(n)
			if n == 60 {
				if checkPack(t, e) != nil {
					t.Errorf("version %d: a right one is refused", v)
				}
				continue
			}
			refuse(t, e, 3, api.ErrParts)
			for _, box := range []int{0, 16, 64, 79, 81, 2097168, 2097169} {
				e.Body = make([]byte, box)
				refuse(t, e, 3, api.ErrParts)
			}
			e.Version = unknown[n%len(unknown)]
			refuse(t, e, 1, api.ErrVersion)
			e.Body = good.Body
			refuse(t, e, 1, api.ErrVersion)
		}
		e := good
		e.Body = nil
		refuse(t, e, 4, api.ErrParts)
		e.Version = 3
		refuse(t, e, 1, api.ErrVersion)
		e = good
		e.Header = make([]byte, 1<<22+1)
		refuse(t, e, 3, api.ErrParts)
	}
}

// Bodies' boxes of every length up to some thousand, and about each bucket's edge up to beyond the last one.
func TestPackBodies(t *testing.T) {
	d := newDrawer(409)
	sizes := []int{1 << 20, 1<<20 + 16, 1179664, 1179665, 1310736, 2097168, 2097169, 2097200, 4194304, 4194304 + 16, 4194304 + 17}
	for n := range 3000 {
		sizes = append(sizes, n)
	}
	for _, b := range bucketsByWords(2) {
		sizes = append(sizes, b, b+15, b+16, b+17)
	}
	room := d.bytes(slices.Max(sizes))
	taken := map[int]int{}
	for _, n := range sizes {
		for _, v := range versions {
			e := d.envelope(v, 0)
			e.Body = room[:n]
			f := checkPack(t, e)
			if f == nil {
				taken[v]++
			} else if f.At != 4 {
				t.Errorf("version %d, a body of %d bytes: %v", v, n, f)
			}
		}
	}
	if taken[1] < 16 || taken[2] < 8*14 {
		t.Errorf("taken: %v", taken)
	}
}

// Every bucket of each version, there and back.
func TestPackThereAndBack(t *testing.T) {
	d := newDrawer(410)
	for _, v := range versions {
		for _, b := range bucketsByWords(v) {
			if b > lastByWords(v) {
				continue
			}
			e := d.envelope(v, b+16)
			if checkPack(t, e) != nil {
				t.Errorf("version %d, a body of %d bytes is refused", v, b+16)
			}
			if e := checkParse(t, bytesByWords(e)); e != api.OK {
				t.Errorf("version %d, a body of %d bytes: %v", v, b+16, e)
			}
		}
	}
	for range 3000 {
		v := 1 + d.Intn(2)
		e := d.envelope(v, d.box(v))
		if checkPack(t, e) != nil {
			t.Errorf("version %d, a body of %d bytes is refused", v, len(e.Body))
		}
		checkPack(t, d.twist(e))
		checkPack(t, d.twist(d.twist(e)))
	}
}

// twist gives one part another version or length.
func (d drawer) twist(e api.Envelope) api.Envelope {
	switch d.Intn(3) {
	case 0:
		e.Version = d.Intn(6) - 1
	case 1:
		e.Header = d.bytes(58 + d.Intn(5))
	case 2:
		e.Body = d.bytes(60 + 4*d.Intn(100))
	}
	return e
}

// Two envelopes that differ in anything have other bytes.
func TestPackApart(t *testing.T) {
	d := newDrawer(411)
	seen := map[string]int{}
	count := 0
	add := func(e api.Envelope) {
		b, err := envelope.Pack(e)
		if err == nil {
			seen[string(b)]++
			count++
		}
	}
	for range 50 {
		e := d.envelope(1, 80)
		add(e)
		for at := range 156 {
			other := e
			other.Header, other.Body = slices.Clone(e.Header), slices.Clone(e.Body)
			if at < 16 {
				other.Nonce[at]++
			} else if at < 76 {
				other.Header[at-16]++
			} else {
				other.Body[at-76]++
			}
			add(other)
		}
		e.Version = 2
		add(e)
		for _, box := range []int{88, 96, 144} {
			e.Body = d.bytes(box)
			add(e)
		}
	}
	if len(seen) != count || count != 50*161 {
		t.Errorf("%d envelopes have %d bytes", count, len(seen))
	}
}

// Each error is a new one.
func TestFaultsAreNew(t *testing.T) {
	d := newDrawer(412)
	right := d.envelope(1, 80)
	for _, call := range []func() error{
		func() error { _, err := envelope.Pack(api.Envelope{}); return err },
		func() error { _, err := envelope.Pack(api.Envelope{Version: 1}); return err },
		func() error { _, err := envelope.Pack(d.envelope(1, 79)); return err },
		func() error { _, err := envelope.Pack(d.envelope(1, 88)); return err },
		func() error { _, err := envelope.ParseHeader(nil); return err },
		func() error { _, err := envelope.Parse(nil); return err },
		func() error { _, err := envelope.Parse(un("08 03")); return err },
		func() error { _, err := envelope.Parse(bytesByWords(right)[:100]); return err },
		func() error { _, err := envelope.Parse(un("08 01")); return err },
		func() error { _, err := envelope.Parse(bytesByWords(d.envelope(1, 88))); return err },
	} {
		one, other := call().(*api.Fault), call().(*api.Fault)
		was := *one
		*other = api.Fault{Line: 7, At: 7, Why: 7}
		if *one != was || *call().(*api.Fault) != was {
			t.Errorf("%v changes with another one", was)
		}
	}
}
