package envelope_test

import (
	"bytes"
	"encoding/binary"
	"slices"
	"testing"

	"pawl/api"
	"pawl/envelope"
)

// P10.3 and P10.4, and of P10.8 what is of bodies

// Of example 3.
func TestPadExamples(t *testing.T) {
	b, e := envelope.Pad(1, []byte("hi"))
	if e != api.OK || !bytes.Equal(b, append(un("02 00 00 00 68 69"), make([]byte, 58)...)) {
		t.Errorf("Pad(1, hi): %x, %v", b, e)
	}
	for _, v := range versions {
		if b, e := envelope.Pad(v, nil); e != api.OK || !bytes.Equal(b, make([]byte, 64)) {
			t.Errorf("Pad(%d, nothing): %x, %v", v, b, e)
		}
		if p, e := envelope.Unpad(v, make([]byte, 64)); e != api.OK || len(p) != 0 {
			t.Errorf("Unpad(%d, 64 bytes 0): %x, %v", v, p, e)
		}
		if p, e := envelope.Unpad(v, make([]byte, 128)); e != api.ErrPadding || p != nil {
			t.Errorf("Unpad(%d, 128 bytes 0): %x, %v", v, p, e)
		}
		if p, e := envelope.Unpad(v, make([]byte, 63)); e != api.ErrPadding || p != nil {
			t.Errorf("Unpad(%d, 63 bytes): %x, %v", v, p, e)
		}
	}
	body := append(un("3d 00 00 00"), bytes.Repeat([]byte{0xee}, 61)...)
	body = append(body, make([]byte, 7)...)
	if p, e := envelope.Unpad(2, body); e != api.OK || !bytes.Equal(p, bytes.Repeat([]byte{0xee}, 61)) {
		t.Errorf("Unpad(2, of 72 bytes): %x, %v", p, e)
	}
	for at := 65; at < 72; at++ {
		other := slices.Clone(body)
		other[at] = 1
		if p, e := envelope.Unpad(2, other); e != api.ErrPadding || p != nil {
			t.Errorf("Unpad(2, of 72 bytes, the one at %d not 0): %x, %v", at, p, e)
		}
	}
	if p, e := envelope.Unpad(0, make([]byte, 64)); e != api.ErrVersion || p != nil {
		t.Errorf("Unpad(0, ..): %x, %v", p, e)
	}
}

// At and about each bucket's edge, of short and of long ones: the body by words, and back.
func TestPadThereAndBack(t *testing.T) {
	d := newDrawer(402)
	for _, n := range edges() {
		for _, v := range versions {
			plain := d.bytes(n)
			want := bodyByWords(v, plain)
			body, e := envelope.Pad(v, plain)
			if e != api.OK || !bytes.Equal(body, want) {
				t.Fatalf("Pad(%d, of %d bytes): %d bytes %.20x, %v", v, n, len(body), body, e)
			}
			if back, e := envelope.Unpad(v, body); e != api.OK || !bytes.Equal(back, plain) {
				t.Fatalf("Unpad(%d, of %d bytes): %d bytes, %v", v, n, len(back), e)
			}
		}
	}
	for n := range 600 {
		for _, plain := range [][]byte{make([]byte, n), bytes.Repeat([]byte{0xff}, n)} { // also such as end in what looks like padding
			for _, v := range versions {
				if b, e := envelope.Pad(v, plain); e != api.OK || !bytes.Equal(b, bodyByWords(v, plain)) || checkUnpad(t, v, b) != api.OK {
					t.Fatalf("Pad(%d, of %d bytes): %x, %v", v, n, b, e)
				}
			}
		}
	}
}

func TestPadRefuses(t *testing.T) {
	long := make([]byte, mostPlain+1)
	for _, v := range versions {
		for _, plain := range [][]byte{long, append(long, 1)} {
			if b, e := envelope.Pad(v, plain); b != nil || e != api.ErrLong {
				t.Errorf("Pad(%d, of %d bytes): %d bytes, %v", v, len(plain), len(b), e)
			}
		}
	}
	for _, v := range unknown {
		for _, plain := range [][]byte{nil, {1}, long[:61], long} {
			if b, e := envelope.Pad(v, plain); b != nil || e != api.ErrVersion {
				t.Errorf("Pad(%d, of %d bytes): %d bytes, %v", v, len(plain), len(b), e)
			}
		}
		for _, b := range [][]byte{nil, {1}, long[:63], long[:64], long[:128], long} {
			if p, e := envelope.Unpad(v, b); p != nil || e != api.ErrVersion {
				t.Errorf("Unpad(%d, of %d bytes): %d bytes, %v", v, len(b), len(p), e)
			}
		}
	}
}

// Bodies of all kinds of lengths, with each byte changed in several ways: a number of another bucket is refused, one of the same bucket is taken if what it leaves is 0.
func TestUnpadSpoiled(t *testing.T) {
	d := newDrawer(403)
	seen := map[api.Errno]int{}
	for _, n := range []int{0, 1, 2, 30, 59, 60, 61, 68, 69, 100, 124, 125, 140, 141, 252, 253} {
		for _, v := range versions {
			body := bodyByWords(v, d.bytes(n))
			for at := range body {
				for _, x := range []byte{0, 1, 2, 0x3c, 0x3d, 0x80, 0xff, body[at] + 1, body[at] - 1, byte(d.Intn(256))} {
					other := slices.Clone(body)
					other[at] = x
					e := checkUnpad(t, v, other)
					seen[e]++
					want := e // of a number of the same bucket, it hangs on what stands behind it
					switch {
					case at >= 4+n && x != 0, at < 4 && bodyLength(v, other) != len(body):
						want = api.ErrPadding
					case at >= 4 && at < 4+n:
						want = api.OK
					}
					if e != want {
						t.Errorf("version %d, %d bytes, %02x at %d: %v, not %v", v, n, x, at, e, want)
					}
				}
				if checkUnpad(t, v, body[:at]) != api.ErrPadding { // the plain text is longer, or has not that bucket
					t.Errorf("version %d, %d bytes, cut at %d", v, n, at)
				}
			}
			for _, behind := range []int{1, 4, 8, 16, 64, len(body), 3 * len(body)} {
				if checkUnpad(t, v, append(slices.Clone(body), make([]byte, behind)...)) != api.ErrPadding {
					t.Errorf("version %d, %d bytes, %d behind them", v, n, behind)
				}
			}
			// Of the other version, it is a body just if the buckets are one.
			one, _ := bucketByWords(1, n)
			two, _ := bucketByWords(2, n)
			if e := checkUnpad(t, 3-v, body); (e == api.OK) != (one == two) {
				t.Errorf("version %d's body of %d bytes in the other one: %v", v, n, e)
			}
		}
	}
	if seen[api.OK] < 1000 || seen[api.ErrPadding] < 1000 {
		t.Error(seen)
	}
}

// bodyLength is that of the plain text whose number a body begins with; 0, if there is none.
func bodyLength(version int, body []byte) int {
	n, _ := bucketByWords(version, int(binary.LittleEndian.Uint32(body)))
	return n
}

// Every length from 0 to some buckets' ends, with every number that could tell of it.
func TestUnpadOfAllLengths(t *testing.T) {
	for size := range 300 {
		b := make([]byte, size)
		for n := range size + 70 {
			if size >= 4 {
				binary.LittleEndian.PutUint32(b, uint32(n))
			}
			for _, v := range versions {
				bucket, _ := bucketByWords(v, n)
				want := api.ErrPadding
				if bucket == size {
					want = api.OK
				}
				if p, e := envelope.Unpad(v, b); e != want || e == api.OK && len(p) != n || e != api.OK && p != nil {
					t.Fatalf("Unpad(%d, of %d bytes, the number %d): %d bytes, %v, not %v", v, size, n, len(p), e, want)
				}
			}
			if size < 4 {
				break
			}
		}
	}
}

// Long bodies: numbers at the ends of their bucket and beyond MaxPlain, beyond the body, and with the highest bits.
func TestUnpadOfGreatNumbers(t *testing.T) {
	for _, v := range versions {
		all := bucketsByWords(v)
		for i, size := range all {
			if i > 0 && i < len(all)-12 && i%3 > 0 {
				continue
			}
			ahead := 0
			if i > 0 {
				ahead = all[i-1]
			}
			b := make([]byte, size)
			for _, n := range []int{0, ahead - 4, ahead - 3, ahead, size - 5, size - 4, size - 3, size, size + 1, mostPlain - 1, mostPlain, mostPlain + 1, 1 << 21, 1<<31 - 1, 1 << 31, 1<<32 - 5, 1<<32 - 4, 1<<32 - 1} {
				if n < 0 {
					continue
				}
				binary.LittleEndian.PutUint32(b, uint32(n))
				want := api.ErrPadding
				if bucket, _ := bucketByWords(v, n); bucket == size {
					want = api.OK
				}
				if p, e := envelope.Unpad(v, b); e != want || e == api.OK && len(p) != n || e != api.OK && p != nil {
					t.Fatalf("Unpad(%d, of %d bytes, the number %d): %d bytes, %v, not %v", v, size, n, len(p), e, want)
				}
			}
		}
		// The last byte of the longest body, and the first behind its plain text.
		b := bodyByWords(v, make([]byte, mostPlain))
		for _, at := range []int{mostPlain + 4, len(b) - 1} {
			b[at] = 0x80
			if p, e := envelope.Unpad(v, b); p != nil || e != api.ErrPadding {
				t.Errorf("version %d, not 0 at %d: %d bytes, %v", v, at, len(p), e)
			}
			b[at] = 0
		}
	}
}

func TestUnpadOfDrawn(t *testing.T) {
	d := newDrawer(404)
	for range 20000 {
		b := make([]byte, d.Intn(200))
		if d.Intn(2) == 0 {
			b = make([]byte, bucketsByWords(2)[d.Intn(12)])
		}
		if len(b) > 4 {
			binary.LittleEndian.PutUint32(b, d.Uint32()>>d.Intn(32))
			d.Read(b[4 : 4+d.Intn(len(b)-4)])
		}
		checkUnpad(t, 1+d.Intn(2), b)
	}
}
