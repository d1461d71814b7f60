package spare_test

import (
	"math"
	"math/rand"
	"slices"
	"testing"

	"pawl/api"
	"pawl/spare"
)

// What the chapter says, done as it is said, on a plain list; and what several tests draw and hold against each other.

const mostStore = 2000

// below are bounds below 0, those among them that come to good ones if bits or the sign are lost.
var below = []int{-1, -2, -5, -1999, -2000, -2001, -1 << 31, -1<<31 - 1, -1 << 32, -1<<32 + 5, -1<<40 + 2, math.MinInt + 7, math.MinInt}

// above are bounds above 2000, those among them that come to good ones if bits are lost.
var above = []int{2001, 2002, 4000, 1<<16 + 5, math.MaxInt32, 1 << 31, 1 << 32, 1<<32 + 5, 1<<40 + 2, math.MaxInt - 1, math.MaxInt}

// numbers are those that a message may have: at the ends, about the places where a number's bits turn, and between.
var numbers = []uint32{0, 1, 2, 127, 128, 255, 256, 65535, 65536, 1<<31 - 1, 1 << 31, 1<<31 + 1, 3000000000, math.MaxUint32 - 1, math.MaxUint32}

// storeByWords is a store: its bound, its spares, the oldest first.
type storeByWords struct {
	most   int
	spares []api.Spare
}

func meet(a, b api.Spare) bool { return a.Header == b.Header && a.N == b.N }

// anyMeet: two of a list meet.
func anyMeet(l []api.Spare) bool {
	for i, a := range l {
		if slices.ContainsFunc(l[:i], func(b api.Spare) bool { return meet(a, b) }) {
			return true
		}
	}
	return false
}

func (w *storeByWords) place(header api.Key, n uint32) int {
	return slices.IndexFunc(w.spares, func(x api.Spare) bool { return x.Header == header && x.N == n })
}

func (w *storeByWords) headers() []api.Key {
	var out []api.Key
	for _, x := range w.spares {
		if !slices.Contains(out, x.Header) {
			out = append(out, x.Header)
		}
	}
	return out
}

func (w *storeByWords) put(l []api.Spare) api.Errno {
	all := append(slices.Clone(w.spares), l...)
	if anyMeet(all) {
		return api.ErrTwice
	}
	if len(all) > w.most {
		return api.ErrStore
	}
	w.spares = all
	return api.OK
}

func (w *storeByWords) find(header api.Key, n uint32) (api.Key, bool) {
	i := w.place(header, n)
	if i < 0 {
		return api.Key{}, false
	}
	return w.spares[i].Message, true
}

func (w *storeByWords) take(header api.Key, n uint32) (api.Key, bool) {
	message, is := w.find(header, n)
	if is {
		i := w.place(header, n)
		w.spares = append(slices.Clone(w.spares[:i]), w.spares[i+1:]...)
	}
	return message, is
}

func (w *storeByWords) forget(n int) int {
	if n < 1 {
		return 0
	}
	if n > len(w.spares) {
		n = len(w.spares)
	}
	w.spares = slices.Clone(w.spares[n:])
	return n
}

// both are a store with spares, and what the words make of it.
func both(t *testing.T, most int, l []api.Spare) (*spare.Store, *storeByWords) {
	t.Helper()
	s, e := spare.From(most, l)
	if e != api.OK || s == nil {
		t.Fatalf("From(%d, of %d): %v", most, len(l), e)
	}
	return s, &storeByWords{most, slices.Clone(l)}
}

// checkStore holds all that a store tells against the words, and that the asking changes nothing.
func checkStore(t *testing.T, what string, s *spare.Store, w *storeByWords) {
	t.Helper()
	for range 2 {
		checkLists(t, what, s, w)
		for _, x := range w.spares {
			if got, is := s.Find(x.Header, x.N); !is || got != x.Message {
				t.Fatalf("%s: Find of %x, %d: %x, %v", what, x.Header[:2], x.N, got, is)
			}
		}
	}
}

// checkLists holds a store's lists and counts against the words, and 12.7 against the lists.
func checkLists(t *testing.T, what string, s *spare.Store, w *storeByWords) {
	t.Helper()
	if s.Len() != len(w.spares) || s.Room() != w.most-len(w.spares) {
		t.Fatalf("%s: Len %d, Room %d, not %d, %d", what, s.Len(), s.Room(), len(w.spares), w.most-len(w.spares))
	}
	l := s.List()
	if !slices.Equal(l, w.spares) {
		t.Fatalf("%s: List %v, not %v", what, l, w.spares)
	}
	if got, want := s.Headers(), w.headers(); !slices.Equal(got, want) {
		t.Fatalf("%s: Headers %x, not %x", what, got, want)
	}
	if s.Len() < 0 || s.Len() > w.most {
		t.Fatalf("%s: %d spares in a store of the bound %d", what, s.Len(), w.most)
	}
}

func checkPut(t *testing.T, s *spare.Store, w *storeByWords, l []api.Spare) {
	t.Helper()
	room := w.most - len(w.spares)
	want := w.put(l)
	if got := s.Put(l); got != want {
		t.Fatalf("Put of %d with room for %d: %v, not %v", len(l), room, got, want)
	}
	checkStore(t, "behind Put", s, w)
}

func checkFind(t *testing.T, s *spare.Store, w *storeByWords, header api.Key, n uint32) {
	t.Helper()
	want, wantIs := w.find(header, n)
	if got, is := s.Find(header, n); got != want || is != wantIs {
		t.Fatalf("Find(%x, %d): %x, %v, not %x, %v", header[:2], n, got, is, want, wantIs)
	}
	checkLists(t, "behind Find", s, w)
}

func checkTake(t *testing.T, s *spare.Store, w *storeByWords, header api.Key, n uint32) {
	t.Helper()
	want, wantIs := w.take(header, n)
	if got, is := s.Take(header, n); got != want || is != wantIs {
		t.Fatalf("Take(%x, %d): %x, %v, not %x, %v", header[:2], n, got, is, want, wantIs)
	}
	if got, is := s.Find(header, n); got != (api.Key{}) || is {
		t.Fatalf("Find(%x, %d) behind Take: %x, %v", header[:2], n, got, is)
	}
	checkStore(t, "behind Take", s, w)
}

func checkForget(t *testing.T, s *spare.Store, w *storeByWords, n int) {
	t.Helper()
	was := w.spares
	want := w.forget(n)
	if got := s.Forget(n); got != want {
		t.Fatalf("Forget(%d) of %d: %d, not %d", n, len(was), got, want)
	}
	for _, x := range was[:want] {
		if got, is := s.Find(x.Header, x.N); got != (api.Key{}) || is {
			t.Fatalf("Find of one that was forgotten: %x, %v", got, is)
		}
	}
	checkStore(t, "behind Forget", s, w)
}

type drawer struct{ *rand.Rand }

func newDrawer(seed int64) drawer { return drawer{rand.New(rand.NewSource(seed))} }

// key is one of any bytes.
func (d drawer) key() api.Key {
	var k api.Key
	d.Read(k[:])
	return k
}

// spares are so many, of which no two meet: header keys come again behind others, and numbers under several header keys.
func (d drawer) spares(n int) []api.Spare {
	headers := make([]api.Key, 1+n/5)
	for i := range headers {
		headers[i] = d.key()
	}
	l := make([]api.Spare, 0, n)
	for i := range n {
		l = append(l, api.Spare{Header: headers[i%len(headers)], N: uint32(i / len(headers)), Message: d.key()})
	}
	d.Shuffle(n, func(i, j int) { l[i], l[j] = l[j], l[i] })
	return l
}

// near is a spare of few header keys and numbers, so that many meet; the message's key is any.
func (d drawer) near() api.Spare {
	return api.Spare{Header: api.Key{31: byte(d.Intn(4))}, N: uint32(d.Intn(5)), Message: d.key()}
}

// nears are fewer than so many of these.
func (d drawer) nears(n int) []api.Spare {
	l := make([]api.Spare, d.Intn(n))
	for i := range l {
		l[i] = d.near()
	}
	return l
}
