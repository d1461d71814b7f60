package schema_test

import (
	"math"
	"slices"
	"testing"

	"pawl/api"
)

// wrong holds what Check and Encode answer, and that against the words.
func wrong(t *testing.T, what string, s []api.Slot, v api.Value, line, at int, why api.Errno) {
	t.Helper()
	c := compiled(t, s)
	checkFault(t, what, c.Check(v), &api.Fault{Line: line, At: at, Why: why})
	checkValue(t, c, s, v)
}

func right(t *testing.T, what string, s []api.Slot, v api.Value) {
	t.Helper()
	c := compiled(t, s)
	checkFault(t, what, c.Check(v), nil)
	checkValue(t, c, s, v)
}

// P8.4

// Example 3.
func TestCheckExamples(t *testing.T) {
	s := example()
	wrong(t, "0", s, parts(num(0), data(""), parts()), 1, 1, api.ErrRange)
	wrong(t, "two parts", s, parts(num(1), data("")), 1, 0, api.ErrSlots)
	wrong(t, "a flag 2", s, parts(num(1), data(""), parts(parts(num(1)), parts(num(2)))), 2, 1, api.ErrRange)
	wrong(t, "a text ff", s, parts(num(1), data("\xff"), parts()), 1, 2, api.ErrForm)
	wrong(t, "a number with Data", s, parts(api.Value{Num: 1, Data: []byte{0}}, data(""), parts()), 1, 1, api.ErrForm)
	right(t, "300, ab, [1]", s, parts(num(300), data("ab"), parts(parts(num(1)))))
}

// Example 7.
func TestCheckOfNoSlots(t *testing.T) {
	for _, s := range [][]api.Slot{nil, {}} {
		right(t, "the zero value", s, api.Value{})
		right(t, "empty lists", s, api.Value{Data: []byte{}, Parts: []api.Value{}})
		wrong(t, "a Num", s, num(1), 1, 0, api.ErrForm)
		wrong(t, "a Data", s, data("x"), 1, 0, api.ErrForm)
		wrong(t, "a part", s, parts(api.Value{}), 1, 0, api.ErrSlots)
	}
}

// The number of parts, of the outermost message, of one within it and of an item.
func TestCheckNumberOfParts(t *testing.T) {
	for n := range 6 {
		got := api.Value{Parts: make([]api.Value, n)}
		for want := range 5 {
			if n == want {
				right(t, "as many", flags(want), got)
				right(t, "as many within", row(sub(flags(want)...)), parts(got))
				right(t, "as many in an item", row(list(0, 2, flags(want)...)), parts(parts(got, got)))
				continue
			}
			full := api.Value{Parts: make([]api.Value, want)}
			wrong(t, "others", flags(want), got, 1, 0, api.ErrSlots)
			wrong(t, "others within", row(sub(flags(want)...)), parts(got), 2, 0, api.ErrSlots)
			wrong(t, "others in an item", row(list(0, 2, flags(want)...)), parts(parts(full, got)), 2, 0, api.ErrSlots)
		}
	}
}

// A message has neither Num nor Data; that is asked ahead of its parts.
func TestCheckFormOfMessages(t *testing.T) {
	for _, odd := range []api.Value{{Num: 1}, {Num: math.MaxUint64}, {Data: []byte{0}}, {Num: 7, Data: []byte("x")}} {
		for _, p := range [][]api.Value{nil, {num(1)}, {num(9)}, {num(1), num(1)}} {
			odd.Parts = p
			wrong(t, "the outermost", flags(1), odd, 1, 0, api.ErrForm)
			wrong(t, "a part", row(sub(flags(1)...)), parts(odd), 2, 0, api.ErrForm)
			wrong(t, "an item", row(list(0, 2, flags(1)...)), parts(parts(parts(num(1)), odd)), 2, 0, api.ErrForm)
		}
	}
}

// Each kind has Num, Data or Parts, and nothing else; asked ahead of its bounds.
func TestCheckFormOfEachKind(t *testing.T) {
	for _, s := range []api.Slot{
		slot(api.KNum, 5, 9), slot(api.KFixed32, 5, 9), slot(api.KFixed64, 5, 9), slot(api.KFlag, 0, 0), slot(api.KFloat, 0, 3),
		slot(api.KBytes, 1, 4), slot(api.KText, 1, 4), list(1, 2), list(1, 2, slot(api.KFlag, 0, 0)),
	} {
		isBytes, isList := s.Kind == api.KBytes || s.Kind == api.KText, s.Kind == api.KList
		for mask := range 8 {
			var v api.Value
			odd := false
			if mask&1 > 0 {
				v.Num = math.MaxUint64
				odd = odd || isBytes || isList
			}
			if mask&2 > 0 {
				v.Data = []byte("\xff\xff\xff\xff\xff\xff")
				odd = odd || !isBytes
			}
			if mask&4 > 0 {
				v.Parts = []api.Value{num(3), num(4), num(5)}
				odd = odd || !isList
			}
			if odd {
				wrong(t, "the odd form", row(s), parts(v), 1, 1, api.ErrForm)
			} else {
				checkValue(t, compiled(t, row(s)), row(s), parts(v))
			}
		}
	}
}

func TestCheckBoundsOfNumbers(t *testing.T) {
	const top = math.MaxUint64
	for _, kind := range []int{api.KNum, api.KFixed32, api.KFixed64} {
		for _, c := range [][2]uint64{{0, 0}, {0, 1}, {1, 300}, {5, 5}, {127, 128}, {1<<32 - 2, 1<<32 - 1}, {1 << 32, 1 << 40}, {0, top}, {1, top}, {0, top - 1}, {top, top}} {
			if kind == api.KFixed32 && c[1] >= 1<<32 {
				continue
			}
			s := []api.Slot{{No: 77, Kind: kind, Least: c[0], Most: c[1]}}
			right(t, "the least", s, parts(num(c[0])))
			right(t, "the most", s, parts(num(c[1])))
			if c[0] > 0 {
				wrong(t, "below", s, parts(num(c[0]-1)), 1, 77, api.ErrRange)
			}
			if c[1] < top {
				wrong(t, "above", s, parts(num(c[1]+1)), 1, 77, api.ErrRange)
				wrong(t, "the top", s, parts(num(top)), 1, 77, api.ErrRange)
			}
		}
	}
	for n := range uint64(2) {
		right(t, "a flag", flags(1), parts(num(n)))
	}
	for _, n := range []uint64{2, 3, 128, 256, 1 << 32, 1<<32 + 1, 1 << 63, top} {
		wrong(t, "no flag", flags(1), parts(num(n)), 1, 1, api.ErrRange)
	}
}

func TestCheckBoundsOfBytesAndItems(t *testing.T) {
	for _, c := range [][2]uint64{{0, 0}, {0, 1}, {1, 3}, {4, 4}, {127, 129}} {
		for _, s := range []api.Slot{slot(api.KBytes, c[0], c[1]), slot(api.KText, c[0], c[1]), list(c[0], c[1])} {
			s.No = 9
			for n := range c[1] + 3 {
				v := api.Value{Data: slices.Repeat([]byte{'x'}, int(n))}
				if s.Kind == api.KList {
					v = api.Value{Parts: make([]api.Value, n)}
				}
				if n >= c[0] && n <= c[1] {
					right(t, "within", []api.Slot{s}, parts(v))
				} else {
					wrong(t, "beyond", []api.Slot{s}, parts(v), 1, 9, api.ErrRange)
				}
			}
		}
	}
}

// Texts that are no UTF-8 in each way, and such as are close to it.
func TestCheckTexts(t *testing.T) {
	s := row(slot(api.KText, 0, 8))
	for _, text := range []string{
		"", "\x00", "a\x00b", "\x7f", "\u0080", "\u07ff", "\u0800", "\ud7ff", "\ue000", "\ufffd", "\ufeff", "\ufffe", "\uffff", "\U00010000", "\U0010ffff", "aé漢", "\U0001f600ab",
	} {
		right(t, "UTF-8", s, parts(data(text)))
	}
	for _, text := range []string{
		"\x80", "\xbf", "a\x80", // one that goes on, with nothing ahead
		"\xc2", "\xe0\xa0", "\xf0\x90\x80", "\xe0", "\xf0", "\xf0\x90", // cut off
		"\xc2a", "\xe0\xa0a", "\xf0\x90\x80a", "\xe1aa", "\xc2\xc2\x80", // cut off by another character
		"\xc0\x80", "\xc1\xbf", "\xe0\x80\x80", "\xe0\x9f\xbf", "\xf0\x80\x80\x80", "\xf0\x8f\xbf\xbf", // not the shortest form
		"\xed\xa0\x80", "\xed\xaf\xbf", "\xed\xb0\x80", "\xed\xbf\xbf", "\xed\xa0\xbd\xed\xb8\x80", // d800 to dfff
		"\xf4\x90\x80\x80", "\xf5\x80\x80\x80", "\xf7\xbf\xbf\xbf", "\xf8\x88\x80\x80\x80", "\xfc\x84\x80\x80\x80\x80", // above 10ffff
		"\xfe", "\xff", "ok\xff", "\xffok",
	} {
		wrong(t, "no UTF-8", s, parts(data(text)), 1, 1, api.ErrForm)
		// Bytes may be anything.
		right(t, "bytes", row(slot(api.KBytes, 0, 8)), parts(data(text)))
	}
	// How many bytes there are is asked first.
	wrong(t, "nine bytes", s, parts(data("\xffaaaaaaaa")), 1, 1, api.ErrRange)
	wrong(t, "bytes, not characters", s, parts(data("äöüßé")), 1, 1, api.ErrRange)
}

// Every list of up to three bytes, held against the table of the form.
func TestCheckAllShortTexts(t *testing.T) {
	c := compiled(t, row(slot(api.KText, 0, 3)))
	held := func(b ...byte) {
		if got, want := c.Check(parts(api.Value{Data: b})) == nil, isText(b); got != want {
			t.Errorf("%x: %v, not %v", b, got, want)
		}
	}
	for x := range 256 {
		held(byte(x))
		for y := range 256 {
			held(byte(x), byte(y))
			if x >= 0xe0 {
				for z := range 256 {
					held(byte(x), byte(y), byte(z))
				}
			}
		}
	}
}

// Example 6, and the bounds from both sides.
func TestCheckFloats(t *testing.T) {
	s := row(slot(api.KFloat, 0, 180))
	for _, x := range []float64{-180, 180, 0, 1, -1, 179.99999999999997, -179.99999999999997, math.SmallestNonzeroFloat64, -math.SmallestNonzeroFloat64, 0x1p-1022, 52.5} {
		right(t, "within", s, parts(float(x)))
	}
	for _, x := range []float64{180.5, -180.5, math.Nextafter(180, 181), math.Nextafter(-180, -181), 1e300, -1e300, math.MaxFloat64, -math.MaxFloat64} {
		wrong(t, "beyond", s, parts(float(x)), 1, 1, api.ErrRange)
	}
	for _, bits := range []uint64{1 << 63, 0x7ff << 52, 0xfff << 52, 0x7ff<<52 | 1, 0xfff<<52 | 1, 0x7ff8 << 48, 0xfff8 << 48, math.MaxUint64, math.MaxUint64 >> 1, 0x7ff<<52 | 1<<51 | 99} {
		wrong(t, "no such float", s, parts(num(bits)), 1, 1, api.ErrForm)
	}
	zero := row(slot(api.KFloat, 0, 0))
	right(t, "0", zero, parts(float(0)))
	wrong(t, "-0", zero, parts(num(1<<63)), 1, 1, api.ErrForm)
	wrong(t, "just above 0", zero, parts(num(1)), 1, 1, api.ErrRange)
	wrong(t, "just below 0", zero, parts(num(1<<63|1)), 1, 1, api.ErrRange)
	great := row(slot(api.KFloat, 0, 1<<53))
	right(t, "2^53", great, parts(float(1<<53)))
	right(t, "-2^53", great, parts(float(-1<<53)))
	wrong(t, "2^53 + 2", great, parts(float(1<<53+2)), 1, 1, api.ErrRange)
	wrong(t, "-2^53 - 2", great, parts(float(-1<<53-2)), 1, 1, api.ErrRange)
	// A number's bits are not asked so.
	right(t, "the bits of -0 as a number", row(slot(api.KFixed64, 0, math.MaxUint64)), parts(num(1<<63)))
}

// How deep each fault lies, through messages and lists, to the deepest.
func TestCheckLines(t *testing.T) {
	odd := func(within api.Value, deep int, isList bool) api.Value {
		for range deep - 1 {
			if isList {
				within = parts(parts(within))
			} else {
				within = parts(within)
			}
		}
		return within
	}
	for deep := 1; deep <= mostDeep; deep++ {
		for _, isList := range []bool{false, true} {
			s := nested([]api.Slot{{No: 4, Kind: api.KNum, Most: 9}, {No: 6, Kind: api.KFlag}}, deep, func(_ int, s []api.Slot) api.Slot {
				if isList {
					return list(0, 3, s...)
				}
				return sub(s...)
			})
			right(t, "as it must be", s, odd(parts(num(9), num(1)), deep, isList))
			wrong(t, "the first part", s, odd(parts(num(10), num(2)), deep, isList), deep, 4, api.ErrRange)
			wrong(t, "the second part", s, odd(parts(num(9), num(2)), deep, isList), deep, 6, api.ErrRange)
			wrong(t, "its form", s, odd(parts(num(9), data("x")), deep, isList), deep, 6, api.ErrForm)
			wrong(t, "one part", s, odd(parts(num(9)), deep, isList), deep, 0, api.ErrSlots)
			wrong(t, "a Num", s, odd(num(9), deep, isList), deep, 0, api.ErrForm)
		}
	}
}

// Of two faults the first one in the order of the chapter.
func TestCheckFirstOfTwo(t *testing.T) {
	s := row(slot(api.KNum, 1, 2), sub(row(slot(api.KText, 1, 2), slot(api.KFlag, 0, 0))...), list(1, 2, row(slot(api.KFloat, 0, 1), list(0, 1, flags(1)...))...), slot(api.KBytes, 0, 1))
	good := func() api.Value {
		return parts(num(1), parts(data("a"), num(1)), parts(parts(float(1), parts(parts(num(1)))), parts(float(0), parts())), data("b"))
	}
	right(t, "as it must be", s, good())
	// Each fault, in the order in which they are asked.
	faults := []struct {
		line, at int
		why      api.Errno
		do       func(v *api.Value)
	}{
		{1, 0, api.ErrForm, func(v *api.Value) { v.Num = 1 }},
		{1, 0, api.ErrSlots, func(v *api.Value) { v.Parts = append(v.Parts, num(0)) }},
		{1, 1, api.ErrForm, func(v *api.Value) { v.Parts[0].Data = []byte("x") }},
		{1, 1, api.ErrRange, func(v *api.Value) { v.Parts[0].Num = 3 }},
		{2, 0, api.ErrForm, func(v *api.Value) { v.Parts[1].Data = []byte("x") }},
		{2, 0, api.ErrSlots, func(v *api.Value) { v.Parts[1].Parts = append(v.Parts[1].Parts, num(0)) }},
		{2, 1, api.ErrForm, func(v *api.Value) { v.Parts[1].Parts[0].Num = 1 }},
		{2, 1, api.ErrRange, func(v *api.Value) { v.Parts[1].Parts[0].Data = nil }},
		{2, 2, api.ErrForm, func(v *api.Value) { v.Parts[1].Parts[1].Parts = parts(num(0)).Parts }},
		{2, 2, api.ErrRange, func(v *api.Value) { v.Parts[1].Parts[1].Num = 2 }},
		{1, 3, api.ErrForm, func(v *api.Value) { v.Parts[2].Num = 1 }},
		{1, 3, api.ErrRange, func(v *api.Value) { v.Parts[2].Parts = append(v.Parts[2].Parts, v.Parts[2].Parts[1]) }},
		{2, 0, api.ErrForm, func(v *api.Value) { v.Parts[2].Parts[0].Num = 1 }},
		{2, 1, api.ErrForm, func(v *api.Value) { v.Parts[2].Parts[0].Parts[0].Data = []byte("x") }},
		{2, 1, api.ErrRange, func(v *api.Value) { v.Parts[2].Parts[0].Parts[0].Num = math.Float64bits(2) }},
		{2, 2, api.ErrForm, func(v *api.Value) { v.Parts[2].Parts[0].Parts[1].Data = []byte("x") }},
		{3, 0, api.ErrSlots, func(v *api.Value) { v.Parts[2].Parts[0].Parts[1].Parts[0].Parts = nil }},
		{2, 0, api.ErrForm, func(v *api.Value) { v.Parts[2].Parts[1].Num = 1 }},
		{2, 1, api.ErrForm, func(v *api.Value) { v.Parts[2].Parts[1].Parts[0].Num = 1 << 63 }},
		{1, 4, api.ErrForm, func(v *api.Value) { v.Parts[3].Num = 1 }},
		{1, 4, api.ErrRange, func(v *api.Value) { v.Parts[3].Data = []byte("xx") }},
	}
	for i, a := range faults {
		v := good()
		a.do(&v)
		wrong(t, "one fault", s, v, a.line, a.at, a.why)
		for _, b := range faults[i+1:] {
			v := good()
			b.do(&v)
			a.do(&v)
			wrong(t, "two faults", s, v, a.line, a.at, a.why)
		}
	}
}

func TestCheckOfDrawnValues(t *testing.T) {
	d := newDrawer(271)
	seen := map[api.Errno]int{}
	for range 3000 {
		s := d.schema()
		c := compiled(t, s)
		right(t, "a drawn message", s, d.message(s))
		for range 6 {
			v := d.message(s)
			d.twist(&v)
			if d.Intn(4) == 0 {
				d.twist(&v)
			}
			checkValue(t, c, s, v)
			if f := messageByWords(s, v, 1); f != nil {
				seen[f.Why]++
			}
		}
	}
	if seen[api.ErrForm] < 300 || seen[api.ErrSlots] < 300 || seen[api.ErrRange] < 300 {
		t.Errorf("drawn were %v", seen)
	}
}

// twist changes one thing of a value, somewhere in it.
func (d *drawer) twist(v *api.Value) {
	if len(v.Parts) > 0 && d.Intn(4) > 0 {
		d.twist(&v.Parts[d.Intn(len(v.Parts))])
		return
	}
	switch d.Intn(8) {
	case 0:
		v.Num++
	case 1:
		v.Num--
	case 2:
		v.Num ^= 1 << d.Intn(64)
	case 3:
		v.Data = append(slices.Clone(v.Data), byte(d.Intn(256)))
	case 4:
		v.Data = v.Data[:len(v.Data)/2]
	case 5:
		v.Data = d.bytes(len(v.Data))
	case 6:
		v.Parts = append(slices.Clone(v.Parts), num(uint64(d.Intn(3))))
	case 7:
		v.Parts = v.Parts[:len(v.Parts)/2]
	}
}

// A value that lies within itself is gone through no deeper than the schema goes.
func TestCheckOfAValueWithinItself(t *testing.T) {
	v := parts(api.Value{})
	v.Parts[0] = v
	for deep := 1; deep <= mostDeep; deep++ {
		s := nested(flags(1), deep, func(_ int, s []api.Slot) api.Slot { return sub(s...) })
		wrong(t, "itself", s, v, deep, 1, api.ErrForm)
	}
}
