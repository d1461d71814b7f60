package files_test

import (
	"testing"

	"pawl/api"
	"pawl/files"
)

// P25.1: sizes, all of them, counted up byte by byte.

// sizes is of each number of bytes that a file may have how many chunks it has; and of each number of bytes that a sealed file has the file's, one more.
func sizes() (chunks []int, plains []int) {
	chunks, plains = make([]int, most+1), make([]int, most+1+mostBoxes*tagLong)
	count, room := 1, full
	for n := range chunks {
		if n > 0 && room == 0 {
			count, room = count+1, full
		}
		if n > 0 {
			room--
		}
		chunks[n] = count
		plains[n+tagLong*count] = n + 1
	}
	return chunks, plains
}

func TestSizes(t *testing.T) {
	chunks, plains := sizes()
	for n, want := range chunks {
		size, e := files.Size(n)
		count, f := files.Chunks(n)
		if e != api.OK || f != api.OK || size != n+tagLong*want || count != want {
			t.Fatalf("of %d bytes: %d bytes, %v, %d chunks, %v, not %d", n, size, e, count, f, want)
		}
	}
	for size, want := range plains {
		plain, e := files.Plain(size)
		if want > 0 && (plain != want-1 || e != api.OK) || want == 0 && (plain != 0 || e != api.ErrFile) {
			t.Fatalf("Plain(%d): %d, %v, not %d", size, plain, e, want-1)
		}
	}
	if top, e := files.Plain(1114112); top != most || e != api.OK {
		t.Errorf("Plain of the longest: %d, %v", top, e)
	}
}

func TestSizesBeyond(t *testing.T) {
	beyond := append([]int{most + 1, most + 2, most + 255, most + 256, most + 257, 1114112, 1114113, 2 * most}, outside...)
	for _, n := range beyond {
		why := api.ErrLong
		if n < 0 {
			why = api.ErrArg
		}
		if size, e := files.Size(n); size != 0 || e != why {
			t.Errorf("Size(%d): %d, %v", n, size, e)
		}
		if count, e := files.Chunks(n); count != 0 || e != why {
			t.Errorf("Chunks(%d): %d, %v", n, count, e)
		}
	}
	for _, n := range append([]int{1114113, 1114112 + 16, 1114112 + 17, 1114112 + 272, 1114112 + 289, 2 * most}, outside...) {
		if plain, e := files.Plain(n); plain != 0 || e != api.ErrFile {
			t.Errorf("Plain(%d): %d, %v", n, plain, e)
		}
	}
	for n := range 3000 {
		if plain, e := files.Plain(1114113 + n); plain != 0 || e != api.ErrFile {
			t.Errorf("Plain(%d): %d, %v", 1114113+n, plain, e)
		}
		if plain, e := files.Plain(-n - 1); plain != 0 || e != api.ErrFile {
			t.Errorf("Plain(%d): %d, %v", -n-1, plain, e)
		}
	}
}
