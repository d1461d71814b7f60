package files_test

import (
	"bytes"
	"math"
	"math/rand"
	"slices"
	"testing"

	"pawl/api"
	"pawl/files"
)

// P25.5, P25.9 and P25.11: pieces of a file.

func TestRangeEachPlace(t *testing.T) {
	key, plain := keyOf(31), drawn(31, 540)
	sealed, _ := sealedBy(t, key, plain)
	for at := range len(plain) + 3 {
		for _, n := range []int{0, 1, 2, 255, 256, 257, 300, 540 - at - 1, 540 - at, 540 - at + 1} {
			ranges(t, "whole", key, sealed, at, n)
			got, e := files.Range(key, sealed, at, n)
			if fits := n >= 0 && at+n <= 540; fits != (e == api.OK) || fits && !bytes.Equal(got, plain[at:at+n]) {
				t.Errorf("%d bytes from %d on: %.40x, %v", n, at, got, e)
			}
		}
	}
}

// ends is places about the ends of the chunks of a file of n bytes.
func ends(n int) []int {
	var l []int
	for end := 0; end <= n+full; end += full {
		l = append(l, end-1, end, end+1)
	}
	return append(l, n-1, n, n+1)
}

// Of each set of chunks that are spoiled, those count that the range touches.
func TestRangeBeside(t *testing.T) {
	key := keyOf(32)
	for _, n := range []int{0, 1, 256, 257, 700} {
		boxes := boxesBy(key, drawn(32, n))
		for _, set := range subsets(len(boxes)) {
			b := spoiled(boxes, set...)
			for _, at := range ends(n) {
				for _, end := range ends(n) {
					ranges(t, "some spoiled", key, b, at, end-at)
				}
			}
		}
	}
}

// P25.11: whatever stands in the other chunks, none of which need be boxes.
func TestRangeByItself(t *testing.T) {
	r := rand.New(rand.NewSource(33))
	key, plain := keyOf(33), drawn(33, 9*full+100)
	boxes := boxesBy(key, plain)
	for range 400 {
		at := r.Intn(len(plain))
		n := 1 + r.Intn(min(len(plain)-at, 3*full))
		first, last := at/full, (at+n-1)/full
		l := slices.Clone(boxes)
		for i := range l {
			if i < first || i > last {
				l[i] = drawn(r.Int63(), len(l[i]))
			}
		}
		got, e := files.Range(key, slices.Concat(l...), at, n)
		if e != api.OK || !bytes.Equal(got, plain[at:at+n]) {
			t.Errorf("%d bytes from %d on: %.40x, %v", n, at, got, e)
		}
		for _, i := range []int{first, last, first + r.Intn(last-first+1)} {
			ranges(t, "one of its chunks spoiled", key, spoiled(boxes, i), at, n)
		}
	}
}

// P25.11: what is read whole is what is opened.
func TestRangeOfAll(t *testing.T) {
	key := keyOf(34)
	for _, n := range lengths {
		boxes := boxesBy(key, drawn(34, n))
		for _, b := range [][]byte{spoiled(boxes), spoiled(boxes, 0), spoiled(boxes, len(boxes)-1), spoiled(boxes, len(boxes)/2)} {
			got, e := files.Range(key, b, 0, n)
			want, why := files.Open(key, digestNow(b), b)
			if n == 0 && (e != api.OK || len(got) > 0) || n > 0 && (e != why || !bytes.Equal(got, want)) {
				t.Errorf("of %d bytes: %.40x, %v, not %.40x, %v", n, got, e, want, why)
			}
		}
	}
}

func TestRangeRefusesInItsOrder(t *testing.T) {
	key := keyOf(35)
	sealed, _ := sealedBy(t, key, drawn(35, 300))
	spoilt := drawn(36, len(sealed))
	numbers := append([]int{0, 1, 299, 300, 301, 272, 289, 317}, outside...)
	for _, at := range numbers {
		for _, n := range numbers {
			got, e := files.Range(key, sealed[:len(sealed)-45], at, n) // 287 bytes: no file's
			if got != nil || e != api.ErrFile {
				t.Errorf("of no file, %d bytes from %d on: %x, %v", n, at, got, e)
			}
			ranges(t, "whole", key, sealed, at, n)
			ranges(t, "spoilt", key, spoilt, at, n)
			ranges(t, "empty", key, spoilt[:16], at, n)
		}
	}
	for _, x := range []struct {
		at, n int
		e     api.Errno
	}{
		{0, 0, api.OK}, {300, 0, api.OK}, {150, 0, api.OK}, {301, 0, api.ErrArg}, {-1, 0, api.ErrArg}, {-1, 1, api.ErrArg}, {0, -1, api.ErrArg}, {300, -1, api.ErrArg},
		{0, 301, api.ErrArg}, {1, math.MaxInt, api.ErrArg}, {math.MaxInt, math.MaxInt, api.ErrArg}, {math.MaxInt, 1, api.ErrArg}, {math.MaxInt, 0, api.ErrArg}, {math.MinInt, math.MinInt, api.ErrArg},
		{0, 1, api.ErrChunk}, {299, 1, api.ErrChunk}, {0, 300, api.ErrChunk},
	} {
		if got, e := files.Range(key, spoilt, x.at, x.n); got != nil && len(got) > 0 || e != x.e {
			t.Errorf("of spoilt bytes, %d from %d on: %x, %v, not %v", x.n, x.at, got, e, x.e)
		}
	}
}

func TestRangeOfTheLongest(t *testing.T) {
	key, plain := keyOf(37), drawn(37, most)
	sealed, _ := sealedBy(t, key, plain)
	for _, x := range [][2]int{{0, 1}, {most - 1, 1}, {most, 0}, {most - 256, 256}, {most - 257, 257}, {65535, 2}, {65536, 256}, {65536 * 7, 1000}, {0, most}, {1, most - 1}, {255, most - 255}} {
		got, e := files.Range(key, sealed, x[0], x[1])
		if e != api.OK || !bytes.Equal(got, plain[x[0]:x[0]+x[1]]) {
			t.Errorf("%d bytes from %d on: %.40x, %v", x[1], x[0], got, e)
		}
	}
	for _, x := range [][2]int{{most, 1}, {most - 1, 2}, {1, most}, {0, most + 1}, {most + 1, 0}} {
		if got, e := files.Range(key, sealed, x[0], x[1]); got != nil || e != api.ErrArg {
			t.Errorf("%d bytes from %d on: %.40x, %v", x[1], x[0], got, e)
		}
	}
}
