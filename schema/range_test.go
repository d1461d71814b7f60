package schema_test

import (
	"bytes"
	"math"
	"testing"

	"pawl/api"
)

// shortest and longest are messages of as few and of as many bytes as can be.
func shortest(s []api.Slot) api.Value { return outermost(s, false) }
func longest(s []api.Slot) api.Value  { return outermost(s, true) }

func outermost(s []api.Slot, long bool) api.Value {
	var v api.Value
	for _, slot := range s {
		n := slot.Least
		if long {
			n = slot.Most
		}
		part := api.Value{}
		switch slot.Kind {
		case api.KNum, api.KFixed32, api.KFixed64:
			part.Num = n
		case api.KBytes, api.KText:
			part.Data = bytes.Repeat([]byte{'x'}, int(n))
		case api.KSub:
			part = outermost(slot.Sub, long)
		case api.KList:
			for range n {
				part.Parts = append(part.Parts, outermost(slot.Sub, long))
			}
		}
		v.Parts = append(v.Parts, part)
	}
	return v
}

// checkRange holds Range against the words, and that there are messages of just so many bytes.
func checkRange(t *testing.T, s []api.Slot) {
	t.Helper()
	c := compiled(t, s)
	least, most := c.Range()
	a, b := rangeByWords(s)
	if int64(least) != a.Int64() || int64(most) != b.Int64() {
		t.Errorf("Range of %v: %d, %d, not %d, %d", s, least, most, a, b)
	}
	for n, v := range map[int]api.Value{least: shortest(s), most: longest(s)} {
		if b, err := c.Encode(v); err != nil || len(b) != n {
			t.Errorf("of %v: a message of %d bytes, %v, not of %d", s, len(b), err, n)
		}
	}
}

// P8.3

func TestRangeExamples(t *testing.T) {
	for _, c := range []struct {
		s           []api.Slot
		least, most int
	}{
		{example(), 6, 23},
		{nil, 0, 0},
		{[]api.Slot{}, 0, 0},
	} {
		if a, b := compiled(t, c.s).Range(); a != c.least || b != c.most {
			t.Errorf("Range of %v: %d, %d", c.s, a, b)
		}
		checkRange(t, c.s)
	}
}

// Each kind, at bounds where the number of bytes changes.
func TestRangeOfEachKind(t *testing.T) {
	const top = math.MaxUint64
	for _, c := range []struct {
		s           api.Slot
		least, most int
	}{
		{slot(api.KNum, 0, 0), 2, 2},
		{slot(api.KNum, 0, 127), 2, 2},
		{slot(api.KNum, 127, 128), 2, 3},
		{slot(api.KNum, 128, 16383), 3, 3},
		{slot(api.KNum, 16384, 1<<63-1), 4, 10},
		{slot(api.KNum, 0, 1<<63), 2, 11},
		{slot(api.KNum, top, top), 11, 11},
		{slot(api.KFixed32, 0, 0), 5, 5},
		{slot(api.KFixed32, 0, 1<<32-1), 5, 5},
		{slot(api.KFixed64, 0, 0), 9, 9},
		{slot(api.KFixed64, 5, top), 9, 9},
		{slot(api.KFlag, 0, 0), 2, 2},
		{slot(api.KBytes, 0, 0), 2, 2},
		{slot(api.KBytes, 0, 127), 2, 129},
		{slot(api.KBytes, 127, 128), 129, 131},
		{slot(api.KBytes, 16383, 16384), 16386, 16388},
		{slot(api.KText, 0, 0), 2, 2},
		{slot(api.KText, 1, 128), 3, 131},
		{slot(api.KFloat, 0, 0), 9, 9},
		{slot(api.KFloat, 0, 1<<53), 9, 9},
		{sub(), 2, 2},
		{sub(slot(api.KBytes, 0, 125)), 4, 129},
		{sub(slot(api.KBytes, 125, 126)), 129, 131},
		{list(0, 0), 2, 2},
		{list(0, 4096), 2, 4099},
		{list(127, 128), 129, 131},
		{list(0, 0, slot(api.KBytes, 0, 1<<22)), 2, 2},
		{list(0, 3, slot(api.KFlag, 0, 0)), 2, 11},
		{list(3, 3, slot(api.KNum, 0, 300)), 11, 14},
		{list(2, 3, list(1, 2, row(sub(), slot(api.KFixed64, 0, 9))...)), 2 + 2*(1+2+12), 2 + 3*(1+2+24)},
	} {
		if a, b := compiled(t, []api.Slot{c.s}).Range(); a != c.least || b != c.most {
			t.Errorf("Range of %v: %d, %d, not %d, %d", c.s, a, b, c.least, c.most)
		}
		checkRange(t, []api.Slot{c.s})
		for _, no := range []int{15, 16, 2047, 2048, 1<<18 - 1, 1 << 18, 1<<25 - 1, 1 << 25, mostNo} {
			c.s.No = no
			checkRange(t, []api.Slot{c.s})
		}
	}
}

func TestRangeOfTheGreatest(t *testing.T) {
	checkRange(t, []api.Slot{slot(api.KBytes, 0, mostBytes-5)})
	checkRange(t, []api.Slot{slot(api.KText, mostBytes-5, mostBytes-5)})
	checkRange(t, []api.Slot{list(4096, 4096, slot(api.KBytes, 0, 1000))})
	checkRange(t, []api.Slot{list(0, 1020, list(0, 4096))})
	checkRange(t, nested(flags(16), mostDeep, func(_ int, s []api.Slot) api.Slot { return list(1, 8, s...) }))
}

func TestRangeOfDrawnSchemas(t *testing.T) {
	d := newDrawer(261)
	for range 2000 {
		checkRange(t, d.schema())
	}
}

// P8.8

func TestMessagesAreWithinTheRange(t *testing.T) {
	d := newDrawer(262)
	for range 2000 {
		s := d.schema()
		c := compiled(t, s)
		least, most := c.Range()
		for range 4 {
			b, err := c.Encode(d.message(s))
			if err != nil || len(b) < least || len(b) > most {
				t.Errorf("of %v: %d bytes, %v, not %d to %d", s, len(b), err, least, most)
			}
		}
	}
}

// What Decode takes is never longer, and never shorter.
func TestWhatIsTakenIsWithinTheRange(t *testing.T) {
	for _, s := range [][]api.Slot{nil, flags(1), flags(2), row(slot(api.KNum, 0, 200)), row(slot(api.KBytes, 1, 2)), row(sub(flags(1)...)), row(list(1, 2))} {
		c := compiled(t, s)
		least, most := c.Range()
		seen := map[int]int{}
		through([]byte{0, 1, 2, 8, 10, 16, 18, 0x80, 0xc8}, 5, func(b []byte) {
			if _, err := c.Decode(b); err == nil {
				seen[len(b)]++
				if len(b) < least || len(b) > most {
					t.Errorf("Decode of %v takes %x, not %d to %d bytes", s, b, least, most)
				}
			}
		})
		if seen[least] == 0 || seen[most] == 0 {
			t.Errorf("Decode of %v took none of %d or of %d bytes: %v", s, least, most, seen)
		}
	}
}

// through calls do with each list of at most so many of these bytes.
func through(alphabet []byte, most int, do func(b []byte)) {
	var from func(b []byte)
	from = func(b []byte) {
		do(b)
		if len(b) == most {
			return
		}
		for _, x := range alphabet {
			from(append(b[:len(b):len(b)], x))
		}
	}
	from(nil)
}

func TestTheLongestIsReadAndOneMoreIsNot(t *testing.T) {
	s := []api.Slot{slot(api.KBytes, 0, mostBytes-5)}
	c := compiled(t, s)
	b, err := c.Encode(longest(s))
	if err != nil || len(b) != mostBytes {
		t.Fatal(len(b), err)
	}
	if !checkDecode(t, c, s, b) {
		t.Error("the longest message was not taken")
	}
	checkDecode(t, c, s, append(b, 0))
	_, err = c.Decode(append(b, 0))
	checkFault(t, "one byte more", err, &api.Fault{At: 0, Why: api.ErrLong})
}
