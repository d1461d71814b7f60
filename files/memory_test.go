package files_test

import (
	"bytes"
	"slices"
	"sync"
	"testing"

	"pawl/api"
	"pawl/files"
)

// What is handed in is neither changed nor kept, and what is given is new memory, room too; calls at one time know nothing of one another.

// fill overwrites a list, room too.
func fill[T any](l []T, with T) {
	l = l[:cap(l)]
	for i := range l {
		l[i] = with
	}
}

// handed is a list as it is handed in, with room behind it, and all that it stands in.
type handed[T comparable] struct{ list, whole, was []T }

func give[T comparable](l []T, behind T) handed[T] {
	whole := slices.Concat(l, slices.Repeat([]T{behind}, 400))
	return handed[T]{whole[:len(l)], whole, slices.Clone(whole)}
}

// stays holds that a list is as it was handed in, and then overwrites it.
func (h handed[T]) stays(t *testing.T, what string, with T) {
	t.Helper()
	if !slices.Equal(h.whole, h.was) {
		t.Errorf("%s: what was handed in has changed", what)
	}
	fill(h.whole, with)
}

// keeps holds of a call on a list that it changes nothing of it, that its answer stays as it is when the list changes, and the list and another answer when the answer does.
func keeps[T comparable](t *testing.T, what string, b []byte, with T, call func(b []byte) []T) {
	t.Helper()
	h := give(b, 0x11)
	got := call(h.list)
	want := slices.Clone(got)
	h.stays(t, what, 0xa5)
	if !slices.Equal(got, want) {
		t.Errorf("%s: the answer changes with what was handed in", what)
	}
	fill(got, with)
	if !bytes.Equal(h.whole, bytes.Repeat([]byte{0xa5}, len(h.whole))) {
		t.Errorf("%s: what was handed in changes with the answer", what)
	}
	other := call(b)
	fill(got, with)
	if !slices.Equal(other, want) {
		t.Errorf("%s, asked again: another answer", what)
	}
}

func TestMemory(t *testing.T) {
	key := keyOf(61)
	for _, n := range []int{0, 1, 255, 256, 257, 600} {
		plain := drawn(61, n)
		sealed, digest := sealedBy(t, key, plain)
		spoilt := turned(turned(sealed, 0), 8*len(sealed)-1)
		keeps(t, "Seal", plain, 1, func(b []byte) []byte { l, _, _ := files.Seal(key, b); return l })
		keeps(t, "Open", sealed, 1, func(b []byte) []byte { l, _ := files.Open(key, digest, b); return l })
		keeps(t, "Range of all", sealed, 1, func(b []byte) []byte { l, _ := files.Range(key, b, 0, n); return l })
		keeps(t, "Range", sealed, 1, func(b []byte) []byte { l, _ := files.Range(key, b, n/3, n/2); return l })
		keeps(t, "Spoilt", spoilt, 77, func(b []byte) []int { l, _ := files.Spoilt(key, b); return l })
		keeps(t, "Digest", sealed, 1, func(b []byte) []byte { k, _ := files.Digest(b); return k[:] })
		for i := range chunksOf(plain) {
			keeps(t, "Proof's chunk", sealed, 1, func(b []byte) []byte { l, _, _ := files.Proof(b, i); return l })
			keeps(t, "Proof's path", sealed, api.Key{1}, func(b []byte) []api.Key { _, l, _ := files.Proof(b, i); return l })
			box, path := proofOf(t, sealed, i)
			way := give(path, api.Key{2})
			keeps(t, "Piece", box, 1, func(b []byte) []byte {
				l, e := files.Piece(key, digest, len(sealed), i, b, way.list)
				if e != api.OK {
					t.Errorf("Piece: %v", e)
				}
				return l
			})
			way.stays(t, "Piece's path", api.Key{3})
		}
	}
}

// What lies beside a piece is not in its spare room.
func TestMemoryOfRange(t *testing.T) {
	plain := bytes.Repeat([]byte{0xee}, 700)
	sealed, _ := sealedBy(t, keyOf(62), plain)
	for _, x := range [][2]int{{0, 1}, {10, 20}, {250, 10}, {0, 257}, {300, 300}} {
		got, _ := files.Range(keyOf(62), sealed, x[0], x[1])
		if room := got[len(got):cap(got)]; bytes.Contains(room, []byte{0xee}) {
			t.Errorf("%d bytes from %d on: more of the file stands behind them", x[1], x[0])
		}
	}
}

// Calls that are refused leave what was handed in as it was, too.
func TestMemoryOfRefusals(t *testing.T) {
	key := keyOf(63)
	sealed, digest := sealedBy(t, key, drawn(63, 600))
	for _, b := range [][]byte{nil, sealed[:15], sealed[:545], turned(sealed, 3000), sealed} {
		h := give(b, 0x11)
		files.Open(key, digest, h.list)
		files.Open(keyOf(1), digestNow(b), h.list)
		files.Range(keyOf(1), h.list, 3, 500)
		files.Range(key, h.list, 3, 5000)
		files.Spoilt(keyOf(1), h.list)
		files.Digest(h.list)
		files.Proof(h.list, 7)
		files.Piece(key, digest, len(sealed), 0, h.list, nil)
		h.stays(t, "a refusal", 0)
	}
	long := give(make([]byte, most+1), 0x11)
	files.Seal(key, long.list)
	w := files.NewWriter(key)
	w.Write(long.list)
	long.stays(t, "what is too long", 0)
}

// A writer keeps copies: what was written may be overwritten, and so may what it gave.
func TestMemoryOfWriters(t *testing.T) {
	key := keyOf(64)
	for _, step := range []int{1, 7, 100, 255, 256, 257, 600} {
		plain := drawn(64, 1300)
		want, wantDigest := sealedBy(t, key, plain)
		w := files.NewWriter(key)
		var all []byte
		for piece := range slices.Chunk(plain, step) {
			h := give(piece, 0x11)
			out, e := w.Write(h.list)
			all = append(all, out...)
			h.stays(t, "Write", 0xa5)
			fill(out, 0x5a)
			if e != api.OK || bytes.Contains(h.whole, []byte{0x5a}) {
				t.Fatalf("%v, or what was handed in changes with the answer", e)
			}
		}
		rest, digest, _ := w.Close()
		if all = append(all, rest...); !bytes.Equal(all, want) || digest != wantDigest {
			t.Errorf("by %d bytes: other bytes than Seal's", step)
		}
	}
}

// What a writer gave out stays as it is while more is written.
func TestMemoryOfWhatWasGiven(t *testing.T) {
	w := files.NewWriter(keyOf(65))
	var given, was [][]byte
	for i := range 20 {
		out, _ := w.Write(drawn(int64(i), 300))
		given, was = append(given, out), append(was, slices.Clone(out))
	}
	rest, _, _ := w.Close()
	fill(rest, 0)
	for i := range given {
		if !bytes.Equal(given[i], was[i]) {
			t.Errorf("the answer %d has changed", i)
		}
	}
}

// TestAtOnce: what is answered hangs on the arguments alone, also beside other calls on the same lists.
func TestAtOnce(t *testing.T) {
	plain := drawn(66, 900)
	sealed, digest := sealedBy(t, keyOf(66), plain)
	var all sync.WaitGroup
	for range 8 {
		all.Go(func() {
			b, d, e := files.Seal(keyOf(66), plain)
			if e != api.OK || d != digest || !bytes.Equal(b, sealed) {
				t.Errorf("Seal: %.40x, %x, %v", b, d, e)
			}
			checkSealed(t, keyOf(66), plain)
			for i := range 4 {
				proves(t, "at once", sealed, i)
				ranges(t, "at once", keyOf(66), sealed, 200*i, 300)
			}
			w := files.NewWriter(keyOf(66))
			first, _ := w.Write(plain)
			rest, d, e := w.Close()
			if e != api.OK || d != digest || !bytes.Equal(slices.Concat(first, rest), sealed) {
				t.Errorf("a writer: %x, %v", d, e)
			}
		})
	}
	all.Wait()
}
