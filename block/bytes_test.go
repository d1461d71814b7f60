package block_test

import (
	"testing"

	"pawl/block"
)

// P5.1

func TestTimesExamples(t *testing.T) {
	for _, c := range [][3]byte{
		{0x57, 0x83, 0xc1}, {0x57, 0x13, 0xfe}, {0x80, 0x02, 0x1b}, {0x00, 0xff, 0x00},
		{0x57, 0x02, 0xae}, {0x57, 0x04, 0x47}, {0x57, 0x08, 0x8e}, {0x57, 0x10, 0x07},
		{0x53, 0xca, 0x01}, {0x03, 0xf6, 0x01}, {0xff, 0xff, 0x13},
	} {
		if got := block.Times(c[0], c[1]); got != c[2] {
			t.Errorf("Times(%02x, %02x): %02x, not %02x", c[0], c[1], got, c[2])
		}
	}
}

func TestTimesOfEveryTwoBytes(t *testing.T) {
	for a := range 256 {
		for b := range 256 {
			if got, want := block.Times(byte(a), byte(b)), timesByWords(byte(a), byte(b)); got != want {
				t.Errorf("Times(%02x, %02x): %02x, not %02x", a, b, got, want)
			}
		}
	}
}

func TestDoubling(t *testing.T) {
	for i := range 256 {
		a := byte(i)
		want := a << 1
		if a&0x80 != 0 {
			want ^= 0x1b
		}
		if got := block.Times(2, a); got != want {
			t.Errorf("Times(2, %02x): %02x, not %02x", a, got, want)
		}
	}
}

func TestOneInverse(t *testing.T) {
	for a := range 256 {
		n := 0
		for b := range 256 {
			if block.Times(byte(a), byte(b)) == 1 {
				n++
			}
		}
		if a == 0 && n != 0 || a != 0 && n != 1 {
			t.Errorf("%02x has %d inverses", a, n)
		}
	}
}

// P5.2

func TestSubExamples(t *testing.T) {
	for _, c := range [][2]byte{{0x00, 0x63}, {0x01, 0x7c}, {0x53, 0xed}, {0x02, 0x77}, {0x10, 0xca}, {0x52, 0x00}, {0x9a, 0xb8}, {0xff, 0x16}} {
		if got := block.Sub(c[0]); got != c[1] {
			t.Errorf("Sub(%02x): %02x, not %02x", c[0], got, c[1])
		}
		if got := block.Back(c[1]); got != c[0] {
			t.Errorf("Back(%02x): %02x, not %02x", c[1], got, c[0])
		}
	}
}

func TestSubAndBackOfEveryByte(t *testing.T) {
	for x, want := range subByWords(t) {
		if got := block.Sub(byte(x)); got != want {
			t.Errorf("Sub(%02x): %02x, not %02x", x, got, want)
		}
		if got := block.Back(want); got != byte(x) {
			t.Errorf("Back(%02x): %02x, not %02x", want, got, x)
		}
	}
}

// P5.6

func TestSubAndBackTurnEachOtherBack(t *testing.T) {
	var come [256]int
	for i := range 256 {
		x := byte(i)
		if got := block.Back(block.Sub(x)); got != x {
			t.Errorf("Back(Sub(%02x)): %02x", x, got)
		}
		if got := block.Sub(block.Back(x)); got != x {
			t.Errorf("Sub(Back(%02x)): %02x", x, got)
		}
		come[block.Sub(x)]++
	}
	for x, n := range come {
		if n != 1 {
			t.Errorf("%02x is Sub of %d bytes", x, n)
		}
	}
}

// P5.7

func TestLawsOfTimes(t *testing.T) {
	times := products()
	for a := range 256 {
		if times[1][a] != byte(a) || times[a][1] != byte(a) {
			t.Errorf("1 times %02x: %02x, and %02x the other way round", a, times[1][a], times[a][1])
		}
		for b := range 256 {
			if times[a][b] != times[b][a] {
				t.Errorf("%02x times %02x: %02x, and %02x the other way round", a, b, times[a][b], times[b][a])
			}
			if zero := a == 0 || b == 0; zero != (times[a][b] == 0) {
				t.Errorf("%02x times %02x: %02x", a, b, times[a][b])
			}
		}
	}
}

// All threes are tried: each product was asked for once, as it hangs on its two bytes alone.
func TestLawsOfTimesOfThree(t *testing.T) {
	times := products()
	for a := range 256 {
		for b := range 256 {
			ab := times[a][b]
			for c := range 256 {
				if times[ab][c] != times[a][times[b][c]] {
					t.Fatalf("%02x, %02x and %02x, put together in two ways: %02x and %02x", a, b, c, times[ab][c], times[a][times[b][c]])
				}
				if times[a][b^c] != ab^times[a][c] {
					t.Fatalf("%02x times %02x ^ %02x: %02x, not %02x", a, b, c, times[a][b^c], ab^times[a][c])
				}
			}
		}
	}
}

// products is Times of every two bytes.
func products() *[256][256]byte {
	var times [256][256]byte
	for a := range 256 {
		for b := range 256 {
			times[a][b] = block.Times(byte(a), byte(b))
		}
	}
	return &times
}
