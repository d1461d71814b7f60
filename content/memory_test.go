package content_test

import (
	"bytes"
	"slices"
	"sync"
	"testing"

	"pawl/api"
	"pawl/content"
)

// What is handed in is neither changed nor kept, and what is given is new memory, room too.

// roomy is c with marks that have room behind them, filled.
func roomy(c api.Content) api.Content {
	m := append(slices.Clone(c.Marks), 0x1111, 0x2222)
	c.Marks = m[:len(c.Marks)]
	return c
}

func wasRoomy(c api.Content) bool {
	n := len(c.Marks)
	return slices.Equal(c.Marks[n:n+2], []uint32{0x1111, 0x2222})
}

// fill overwrites a list, room too.
func fill[T any](l []T, with T) {
	l = l[:cap(l)]
	for i := range l {
		l[i] = with
	}
}

func TestMemoryOfWhatIsToldOfAContent(t *testing.T) {
	d := newDrawer(313)
	for i := range 3000 {
		c := d.any()
		if i%4 == 0 {
			c = d.twist(c)
		}
		was := c
		was.Marks = slices.Clone(c.Marks)
		in := roomy(c)
		e := content.Check(in)
		b, err := content.Encode(in)
		other, _ := content.Encode(in)
		line, _ := content.Print(in)
		if e != checkByWords(was) || !same(in, was) || !wasRoomy(in) {
			t.Fatalf("%v is now %v", was, in)
		}
		fill(in.Marks, 0xa5a5)
		if err != nil {
			continue
		}
		want := bytesByWords(was)
		if !bytes.Equal(b, want) || !bytes.Equal(other, want) || line != lineByWords(was) {
			t.Fatalf("%x changes with the content: %x, %x", want, b, other)
		}
		fill(b, 0xa5)
		if !bytes.Equal(other, want) {
			t.Fatalf("%x changes with another answer: %x", want, other)
		}
	}
}

func TestMemoryOfWhatIsRead(t *testing.T) {
	d := newDrawer(314)
	for i := range 3000 {
		c := d.any()
		b := bytesByWords(c)
		if i%4 == 0 {
			b = d.spoil(b)
		}
		room := append(slices.Clone(b), 0x11, 0x22, 0x33)
		was := slices.Clone(room)
		got, err := content.Decode(room[:len(b)])
		other, _ := content.Decode(room[:len(b)])
		if !bytes.Equal(room, was) {
			t.Fatalf("%x is now %x", was, room)
		}
		fill(room, 0xa5)
		if err == nil {
			hold(t, got, other)
		}
		got, _, _ = content.Parse(lineByWords(c))
		other, _, _ = content.Parse(lineByWords(c))
		hold(t, got, other)
		if !same(other, c) {
			t.Fatalf("%v is read as %v", c, other)
		}
	}
}

// hold overwrites one of two like answers and looks at the other one.
func hold(t *testing.T, got, other api.Content) {
	t.Helper()
	want := slices.Clone(got.Marks)
	if !same(got, other) || content.Check(got) != api.OK {
		t.Fatalf("%v and %v of one input", got, other)
	}
	fill(got.Marks, 0xa5a5)
	if !slices.Equal(other.Marks, want) {
		t.Fatalf("%v changes with another answer: %v", want, other.Marks)
	}
}

// From arguments alone: whatever goes on beside it.
func TestAtOnce(t *testing.T) {
	var all sync.WaitGroup
	for i := range 8 {
		all.Go(func() {
			d := newDrawer(int64(320 + i))
			for range 200 {
				c := d.any()
				b, err := content.Encode(c)
				back, err2 := content.Decode(b)
				line, e := content.Print(c)
				again, _, e2 := content.Parse(line)
				if err != nil || err2 != nil || e != api.OK || e2 != api.OK || !same(back, c) || !same(again, c) {
					t.Errorf("%v: %x, %v, %v, %q, %v", c, b, err, back, line, again)
				}
			}
		})
	}
	all.Wait()
}
