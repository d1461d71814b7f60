package wire_test

import (
	"bytes"
	"math/rand"
	"slices"
	"testing"

	"pawl/api"
	"pawl/wire"
)

// What is handed in is neither changed nor kept (but for P7.5), and what is given is new memory, room too.

// checkGiven holds it of a call on one list, with room behind it, that gives lists.
func checkGiven(t *testing.T, what string, b []byte, call func(b []byte) [][]byte) {
	t.Helper()
	room := slices.Concat(b, bytes.Repeat([]byte{0x11}, 40))
	was := slices.Clone(room)
	got := call(room[:len(b)])
	if !bytes.Equal(room, was) {
		t.Errorf("%s(%.40x) changes what was handed in", what, b)
	}
	want := copied(got)
	other := call(room[:len(b)])
	clear(room)
	if !slices.EqualFunc(got, want, bytes.Equal) || !slices.EqualFunc(other, want, bytes.Equal) {
		t.Errorf("%s(%.40x): the answer changes with what was handed in", what, b)
	}
	for i := range got {
		fill(got[i][:cap(got[i])])
		for k := i + 1; k < len(got); k++ {
			if !bytes.Equal(got[k], want[k]) {
				t.Errorf("%s(%.40x): the %dth list changes with the %dth", what, b, k, i)
			}
		}
		for k := range i {
			if !bytes.Equal(got[k], bytes.Repeat([]byte{0xa5}, len(got[k]))) {
				t.Errorf("%s(%.40x): the %dth list changes with the %dth", what, b, k, i)
			}
		}
		for k := range i + 1 {
			fill(got[k][:cap(got[k])])
		}
	}
	if !slices.EqualFunc(other, want, bytes.Equal) {
		t.Errorf("%s(%.40x): one answer changes with another", what, b)
	}
	if !bytes.Equal(room, make([]byte, len(room))) {
		t.Errorf("%s(%.40x): what was handed in changes with the answer", what, b)
	}
}

func copied(l [][]byte) [][]byte {
	var out [][]byte
	for _, b := range l {
		out = append(out, bytes.Clone(b))
	}
	return out
}

func datas(l []api.Field) [][]byte {
	var out [][]byte
	for _, f := range l {
		out = append(out, f.Data)
	}
	return out
}

func TestMemoryOfPut(t *testing.T) {
	r := rand.New(rand.NewSource(241))
	for _, n := range edgeNumbers() {
		for _, k := range []int{0, 1, 7, 8, 31} {
			checkGiven(t, "Put", drawn(r, k), func(b []byte) [][]byte { return [][]byte{wire.Put(b, n)} })
		}
	}
}

func TestMemoryOfReading(t *testing.T) {
	r := rand.New(rand.NewSource(242))
	for count := range 12 {
		l := drawnFields(r, count)
		for i := range l {
			if i%2 == 0 {
				l[i] = api.Field{No: l[i].No, Type: byBytes, Data: drawn(r, r.Intn(20))}
			}
		}
		b := encoded(t, l)
		checkGiven(t, "Decode", b, func(b []byte) [][]byte {
			l, _, e := wire.Decode(b)
			if e != api.OK {
				t.Error(e)
			}
			return datas(l)
		})
		checkGiven(t, "Fields", b, func(b []byte) [][]byte {
			var out [][]byte
			for _, f := range wire.Fields(b) {
				out = append(out, f.Data)
			}
			return out
		})
		checkGiven(t, "Split", joined(t, drawnItems(r, count)), func(b []byte) [][]byte {
			items, _, e := wire.Split(b)
			if e != api.OK {
				t.Error(e)
			}
			return items
		})
	}
}

// The lists of fields and of items themselves are new ones too.
func TestMemoryOfTheListsThemselves(t *testing.T) {
	b := un("0801100218032004")
	one, _, _ := wire.Decode(b)
	other, _, _ := wire.Decode(b)
	clear(one[:cap(one)])
	if again, _, _ := wire.Decode(b); len(other) != 4 || other[0].No != 1 || !sameFields(again, other) {
		t.Errorf("%v changes with another answer", other)
	}
	b = un("0161016201630164")
	a, _, _ := wire.Split(b)
	c, _, _ := wire.Split(b)
	clear(a[:cap(a)])
	if len(c) != 4 || string(c[0]) != "a" {
		t.Errorf("%q changes with another answer", c)
	}
}

func TestMemoryOfWriting(t *testing.T) {
	r := rand.New(rand.NewSource(243))
	checkGiven(t, "Encode", drawn(r, 30), func(b []byte) [][]byte {
		l := []api.Field{{No: 1, Type: byBytes, Data: b}, {No: 2, Type: byBytes, Data: b[:3]}, {No: 3, Type: byBytes, Data: b[30:]}}
		was := slices.Clone(l)
		out := encoded(t, l)
		if !sameFields(l, was) {
			t.Errorf("Encode changes the fields: %v", l)
		}
		return [][]byte{out}
	})
	checkGiven(t, "Join", drawn(r, 30), func(b []byte) [][]byte {
		items := make([][]byte, 3, 9)
		items[0], items[1], items[2] = b, b[:3], b[30:]
		was := slices.Clone(items)
		out := joined(t, items)
		if !slices.EqualFunc(items, was, bytes.Equal) || items[:4][3] != nil {
			t.Errorf("Join changes the items: %x", items)
		}
		return [][]byte{out}
	})
	checkGiven(t, "Join of one", drawn(r, 30), func(b []byte) [][]byte {
		return [][]byte{joined(t, [][]byte{b})}
	})
}

func TestRefusalsChangeNothing(t *testing.T) {
	r := rand.New(rand.NewSource(244))
	for range 2000 {
		room := drawn(r, 60)
		was := slices.Clone(room)
		b := room[:r.Intn(40)]
		wire.Decode(b)
		wire.Split(b)
		wire.Number(b, r.Intn(50)-5)
		for range wire.Fields(b) {
		}
		wire.Encode([]api.Field{{No: 2, Type: byBytes, Data: b}, {No: 1}})
		if !bytes.Equal(room, was) {
			t.Fatalf("%x is now %x", was, room)
		}
	}
}
