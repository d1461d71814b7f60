package journal_test

import (
	"bytes"
	"slices"
	"strings"
	"sync"
	"testing"

	"pawl/api"
	"pawl/journal"
)

// What is handed in is neither changed nor kept, and what is given is new memory, room too; stores know nothing of one another.

// fill overwrites a list, room too.
func fill[T any](l []T, with T) {
	l = l[:cap(l)]
	for i := range l {
		l[i] = with
	}
}

// roomy is bytes with room behind them, and all that they stand in.
func roomy(text string) ([]byte, []byte) {
	whole := []byte(text + strings.Repeat("\x11", 300))
	return whole[:len(text)], whole
}

// What Apply is handed is overwritten behind each call, whether it took it or not.
func TestMemoryOfApply(t *testing.T) {
	x := newBoth(t)
	for _, c := range []struct {
		texts []string // of each change its name and its data
		want  api.Errno
	}{
		{[]string{"a", "x"}, api.OK},
		{[]string{"a", "1", "b", "", "a", "longer data than before"}, api.OK},
		{[]string{"c", "2", "a b", "3"}, api.ErrEntry},
		{[]string{"c", strings.Repeat("d", 300), "d", strings.Repeat("e", mostData+1)}, api.ErrLong},
		{[]string{"b", "", "e", strings.Repeat("f", 5000)}, api.OK},
	} {
		var l, words []api.Change
		var wholes [][]byte
		for i := 0; i < len(c.texts); i += 2 {
			data, whole := roomy(c.texts[i+1])
			l = append(l, api.Change{Name: c.texts[i], Data: data})
			words = append(words, put(c.texts[i], c.texts[i+1]))
			wholes = append(wholes, whole)
		}
		l = append(l, put("behind", "all"))[:len(l)]
		if e := x.s.Apply(l); e != c.want || x.w.apply(words) != e {
			t.Errorf("%v, not %v", e, c.want)
		}
		for i, whole := range wholes {
			if text := c.texts[2*i+1]; string(whole) != text+strings.Repeat("\x11", 300) || l[i].Name != c.texts[2*i] || l[i].Delete || len(l[i].Data) != len(text) {
				t.Errorf("change %d has changed", i)
			}
			fill(whole, 0xa5)
		}
		if more := l[:cap(l)]; len(more) > len(l) && more[len(l)].Name != "behind" {
			t.Error("the room behind the changes has changed")
		}
		fill(l, put("other", "!"))
		checkStore(t, "overwritten", x.s, x.w)
		x.compact()
		checkOpen(t, "overwritten", x.s.Bytes())
	}
}

// Of two changes that share one list each has the bytes.
func TestMemoryOfSharedData(t *testing.T) {
	data, whole := roomy("shared")
	s := journal.New()
	if e := s.Apply([]api.Change{{Name: "a", Data: data}, {Name: "b", Data: data[:3]}, {Name: "c", Data: data[3:]}}); e != api.OK {
		t.Fatal(e)
	}
	fill(whole, 0)
	if got := entriesOf(s); got != "a=shared b=sha c=red" {
		t.Error(got)
	}
	a, _ := s.Get("a")
	fill(a, 1)
	if got := entriesOf(s); got != "a=shared b=sha c=red" {
		t.Error(got)
	}
}

func TestMemoryOfAnswers(t *testing.T) {
	x := newBoth(t)
	x.answers("two", api.OK, put("a", "some data"), put("b", ""), put("c", "other data"))
	for range 3 {
		fill(x.s.Bytes(), 0xa5)
		fill(x.s.Names(), "none")
		for _, name := range x.s.Names() {
			b, _ := x.s.Get(name)
			fill(b, 0xa5)
		}
		checkStore(t, "answers overwritten", x.s, x.w)
		one, other := x.s.Bytes(), x.s.Bytes()
		fill(one, 1)
		if !bytes.Equal(other, x.w.journal) {
			t.Error("two answers share their bytes")
		}
		// An answer stays as it is while the store goes on, and so does its room.
		b, names := x.s.Bytes(), x.s.Names()
		a, _ := x.s.Get("a")
		was := slices.Clone(b[:cap(b)])
		x.answers("more", api.OK, put("a", "d"), put("d", "1"), gone("d"))
		x.compact()
		if !bytes.Equal(b[:cap(b)], was) || !slices.Equal(names, []string{"a", "b", "c"}) || string(a) != "some data" {
			t.Error("answers change with the store")
		}
		x.answers("as it was", api.OK, put("a", "some data"))
	}
}

// Open keeps nothing of what it reads, neither of what counts nor of the rest.
func TestMemoryOfOpen(t *testing.T) {
	w := newByWords()
	w.apply([]api.Change{put("a", "some data"), put("b", "")})
	w.apply(append(puts(20), put("c", strings.Repeat("c", 500))))
	elder := elderOf(put("a", "some data"), put("b", ""), put("c", strings.Repeat("c", 500)), gone("b"))
	for _, text := range []string{string(w.journal), string(w.journal[:len(w.journal)-1]), string(elder), string(elder[:len(elder)-1]), headText, elderText} {
		b, whole := roomy(text)
		s, _, e := journal.Open(b)
		if e != api.OK || string(whole) != text+strings.Repeat("\x11", 300) {
			t.Fatalf("%v, or what was handed in has changed", e)
		}
		stood, _, _ := openByWords([]byte(text))
		fill(whole, 0xa5)
		checkStore(t, "overwritten", s, stood)
		fill(s.Bytes(), 0xa5)
		x := both{t, s, stood}
		x.answers("more", api.OK, put("a", "1"), put("z", ""))
		x.compact()
		if string(whole) != strings.Repeat("\xa5", len(whole)) {
			t.Error("what was handed in changes with the store")
		}
	}
	for _, text := range []string{"", "PAWLJRN", "PAWLJRN3 and more"} {
		b, whole := roomy(text)
		journal.Open(b)
		if string(whole) != text+strings.Repeat("\x11", 300) {
			t.Error("what was refused has changed")
		}
	}
}

// Two stores that were read from the same bytes go on apart.
func TestStoresKnowNothingOfOneAnother(t *testing.T) {
	w := newByWords()
	w.apply([]api.Change{put("a", "1"), put("b", "2")})
	first, _, _ := journal.Open(w.journal)
	second, _, _ := journal.Open(w.journal)
	one, other := both{t, first, w.clone()}, both{t, second, w.clone()}
	one.answers("one", api.OK, put("a", "3"), gone("b"))
	checkStore(t, "the other", other.s, other.w)
	other.answers("other", api.OK, put("c", "4"))
	other.compact()
	checkStore(t, "one", one.s, one.w)
	checkStore(t, "New", journal.New(), newByWords())
}

// Many at once, each on a store of its own; and many that only ask, of one.
func TestAtOnce(t *testing.T) {
	w := newByWords()
	w.apply(puts(40))
	s, _, _ := journal.Open(w.journal)
	var all sync.WaitGroup
	for i := range 8 {
		all.Go(func() {
			d := newDrawer(int64(2900+i), 60, "a", "b", "c")
			own := newByWords()
			fresh := journal.New()
			for range 30 {
				l := d.batch(own, 1+d.Intn(20))
				if fresh.Apply(l) != api.OK || own.apply(l) != api.OK || !bytes.Equal(fresh.Bytes(), own.journal) {
					t.Error("another answer")
				}
				if again, counts, _ := journal.Open(own.journal); counts != len(own.journal) || again.Head() != fresh.Head() {
					t.Error("another answer of Open")
				}
				if !bytes.Equal(s.Bytes(), w.journal) || len(s.Names()) != 40 || s.Head() != w.link {
					t.Error("another answer of the one store")
				}
			}
		})
	}
	all.Wait()
}
