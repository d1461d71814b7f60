package schema_test

import (
	"bytes"
	"slices"
	"sync"
	"testing"

	"pawl/api"
)

// What is handed in is neither changed nor kept, and what is given is new memory, room too.

// roomy is a copy of a value whose lists all have room behind them, filled.
func roomy(v api.Value) api.Value {
	out := api.Value{Num: v.Num}
	data := append(slices.Clone(v.Data), 0x11, 0x22, 0x33)
	out.Data = data[:len(v.Data)]
	p := make([]api.Value, len(v.Parts), len(v.Parts)+2)
	for i, part := range v.Parts {
		p[i] = roomy(part)
	}
	p[:cap(p)][len(p)] = num(0x1234)
	out.Parts = p
	return out
}

// wasRoomy tells whether the room is still as roomy filled it.
func wasRoomy(v api.Value) bool {
	if !bytes.Equal(v.Data[len(v.Data):len(v.Data)+3], []byte{0x11, 0x22, 0x33}) {
		return false
	}
	p := v.Parts[:cap(v.Parts)]
	return same(p[len(v.Parts)], num(0x1234)) && same(p[len(v.Parts)+1], api.Value{}) && !slices.ContainsFunc(v.Parts, func(v api.Value) bool { return !wasRoomy(v) })
}

// wipe overwrites all lists of a value, room too.
func wipe(v api.Value) {
	room := v.Data[:cap(v.Data)]
	for i := range room {
		room[i] = 0xa5
	}
	for _, p := range v.Parts {
		wipe(p)
	}
	for i := range v.Parts[:cap(v.Parts)] {
		v.Parts[:cap(v.Parts)][i] = num(0xa5a5)
	}
}

func copyValue(v api.Value) api.Value {
	out := api.Value{Num: v.Num, Data: slices.Clone(v.Data)}
	for _, p := range v.Parts {
		out.Parts = append(out.Parts, copyValue(p))
	}
	return out
}

func TestMemoryOfCheckAndEncode(t *testing.T) {
	d := newDrawer(301)
	for i := range 1000 {
		s := d.schema()
		c := compiled(t, s)
		v := d.message(s)
		if i%2 > 0 {
			d.twist(&v)
		}
		in := roomy(v)
		if (c.Check(in) == nil) != (messageByWords(s, v, 1) == nil) {
			t.Fatal("Check takes room for something")
		}
		b, err := c.Encode(in)
		if !same(in, v) || !wasRoomy(in) {
			t.Errorf("%v is now %v", v, in)
		}
		other, _ := c.Encode(in)
		wipe(in)
		if err != nil {
			continue
		}
		want := bytesByWords(s, v)
		if !bytes.Equal(b, want) || !bytes.Equal(other, want) {
			t.Errorf("the bytes %x change with the value: %x", want, b)
		}
		clear(b[:cap(b)])
		if !bytes.Equal(other, want) {
			t.Errorf("the bytes %x change with another answer: %x", want, other)
		}
	}
}

func TestMemoryOfDecode(t *testing.T) {
	d := newDrawer(302)
	for i := range 1000 {
		s := d.schema()
		c := compiled(t, s)
		v := d.message(s)
		b := bytesByWords(s, v)
		if i%4 == 0 {
			b = d.spoilBytes(b)
		}
		room := append(slices.Clone(b), 0x11, 0x22, 0x33)
		was := slices.Clone(room)
		got, err := c.Decode(room[:len(b)])
		other, _ := c.Decode(room[:len(b)])
		if !bytes.Equal(room, was) {
			t.Errorf("%x is now %x", was, room)
		}
		if err != nil {
			continue
		}
		want := copyValue(got)
		clear(room)
		if !same(got, want) || !same(other, want) {
			t.Errorf("%v changes with the bytes: %v", want, got)
		}
		wipe(got)
		if !same(other, want) {
			t.Errorf("%v changes with another answer: %v", want, other)
		}
		if !bytes.Equal(room, make([]byte, len(room))) {
			t.Error("the bytes change with the answer")
		}
		if again, err := c.Encode(want); err != nil || !bytes.Equal(again, b) {
			t.Errorf("behind all that %x is %x, %v", b, again, err)
		}
	}
}

// No two lists of one answer share memory: overwriting one leaves the others.
func TestMemoryOfTheListsOfOneAnswer(t *testing.T) {
	s := row(slot(api.KBytes, 0, 9), slot(api.KText, 0, 9), sub(row(slot(api.KBytes, 0, 9), slot(api.KFlag, 0, 0))...), list(0, 4, row(slot(api.KText, 0, 9), list(0, 3))...))
	c := compiled(t, s)
	item := parts(data("item"), parts(parts(), parts()))
	v := parts(data("one"), data("two"), parts(data("inner"), num(1)), parts(item, item, item))
	b, err := c.Encode(v)
	if err != nil {
		t.Fatal(err)
	}
	count := len(listsOf(&v))
	for i := range count {
		got, err := c.Decode(b)
		if err != nil {
			t.Fatal(err)
		}
		ls := listsOf(&got)
		wanted := copyValue(got)
		want := listsOf(&wanted)
		ls[i].overwrite()
		for k := range ls {
			if k != i && !ls[k].within(ls[i]) && !ls[k].same(want[k]) {
				t.Errorf("the %dth list changes with the %dth", k, i)
			}
		}
	}
}

// listAt is one of a value's lists, with the way to it.
type listAt struct {
	v      *api.Value
	isData bool
	way    []int
}

func listsOf(v *api.Value, way ...int) []listAt {
	out := []listAt{{v, true, way}, {v, false, way}}
	for i := range v.Parts {
		out = append(out, listsOf(&v.Parts[i], append(slices.Clone(way), i)...)...)
	}
	return out
}

func (l listAt) overwrite() {
	if l.isData {
		room := l.v.Data[:cap(l.v.Data)]
		for i := range room {
			room[i] = 0xa5
		}
		return
	}
	room := l.v.Parts[:cap(l.v.Parts)]
	for i := range room {
		room[i] = num(0xa5a5)
	}
}

// within tells whether l lies in the parts of another one.
func (l listAt) within(other listAt) bool {
	return !other.isData && len(l.way) > len(other.way) && slices.Equal(l.way[:len(other.way)], other.way)
}

// same holds two lists against each other, of parts their own Num and lengths alone.
func (l listAt) same(other listAt) bool {
	if l.isData {
		return bytes.Equal(l.v.Data, other.v.Data)
	}
	return slices.EqualFunc(l.v.Parts, other.v.Parts, func(a, b api.Value) bool {
		return a.Num == b.Num && len(a.Data) == len(b.Data) && len(a.Parts) == len(b.Parts)
	})
}

// One codec may be used from many places at once, and what one call meets another does not see.
func TestCodecAtOnce(t *testing.T) {
	s := example()
	c := compiled(t, s)
	var all sync.WaitGroup
	for i := range 8 {
		all.Go(func() {
			v := parts(num(uint64(i)), data("x"), parts(parts(num(1))))
			want := messageByWords(s, v, 1)
			for range 200 {
				if (c.Check(v) == nil) != (want == nil) {
					t.Errorf("Check of %d", i)
				}
				b := bytesByWords(s, v)
				if _, err := c.Decode(b); (err == nil) != (want == nil) {
					t.Errorf("Decode of %d", i)
				}
			}
		})
	}
	all.Wait()
}

// P8.9. In which ways each error can be asked, checkFault holds in all the tests.

// Each error is a new one.
func TestFaultsAreNew(t *testing.T) {
	c := compiled(t, example())
	bad := parts(num(0), data(""), parts())
	_, one := c.Encode(bad)
	for _, other := range []error{c.Check(bad), c.Check(bad)} {
		f := other.(*api.Fault)
		if one.(*api.Fault) == f {
			t.Error("one fault is told twice")
		}
		*f = api.Fault{}
	}
	checkFault(t, "another one was changed", one, &api.Fault{Line: 1, At: 1, Why: api.ErrRange})
	_, one = c.Decode(nil)
	_, other := c.Decode(nil)
	*other.(*api.Fault) = api.Fault{}
	checkFault(t, "another one was changed", one, &api.Fault{At: 0, Why: api.ErrSlots})
}

// Behind an error the codec goes on as ahead of it.
func TestCodecBehindAFault(t *testing.T) {
	d := newDrawer(303)
	for range 200 {
		s := d.schema()
		c := compiled(t, s)
		for range 5 {
			v := d.message(s)
			b := bytesByWords(s, v)
			d.twist(&v)
			checkValue(t, c, s, v)
			checkDecode(t, c, s, d.spoilBytes(b))
			if !checkDecode(t, c, s, b) {
				t.Error("a right message is not taken")
			}
		}
	}
}
