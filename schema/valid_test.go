package schema_test

import (
	"math"
	"math/big"
	"slices"
	"testing"

	"pawl/api"
	"pawl/schema"
)

// checkValid holds Valid and Compile against what is wanted, and that against the words.
func checkValid(t *testing.T, what string, s []api.Slot, want api.Errno) {
	t.Helper()
	if w := validByWords(s); w != want {
		t.Errorf("%s: by the words %v, not %v", what, w, want)
	}
	checkSchema(t, what, s, want)
}

func checkSchema(t *testing.T, what string, s []api.Slot, want api.Errno) {
	t.Helper()
	if e := schema.Valid(s); e != want {
		t.Errorf("Valid of %s: %v, not %v", what, e, want)
	}
	if c, e := schema.Compile(s); e != want || (c == nil) != (want != api.OK) {
		t.Errorf("Compile of %s: %v, %v, not %v", what, c, e, want)
	}
}

// P8.1

// Examples 1 and 5.
func TestValidExamples(t *testing.T) {
	checkValid(t, "S", example(), api.OK)
	checkValid(t, "5 to 4", []api.Slot{slot(api.KNum, 5, 4)}, api.ErrSchema)
	checkValid(t, "2 ahead of 1", []api.Slot{{No: 2, Kind: api.KFlag}, {No: 1, Kind: api.KFlag}}, api.ErrSchema)
	checkValid(t, "a Kind 10", []api.Slot{{No: 1, Kind: 10}}, api.ErrSchema)
	checkValid(t, "a flag to 1", []api.Slot{slot(api.KFlag, 0, 1)}, api.ErrSchema)
	checkValid(t, "bytes to 4194304", []api.Slot{slot(api.KBytes, 0, 4194304)}, api.ErrLong)
}

func TestValidOfNoSlots(t *testing.T) {
	checkValid(t, "nil", nil, api.OK)
	checkValid(t, "none", []api.Slot{}, api.OK)
}

// Each kind with bounds at, below and above what the table says.
func TestValidBoundsOfEachKind(t *testing.T) {
	const most = math.MaxUint64
	for _, c := range []struct {
		kind        int
		least, most uint64
		want        api.Errno
	}{
		{api.KNum, 0, 0, api.OK}, {api.KNum, 0, most, api.OK}, {api.KNum, most, most, api.OK},
		{api.KNum, 1, 0, api.ErrSchema}, {api.KNum, most, most - 1, api.ErrSchema}, {api.KNum, most, 0, api.ErrSchema},
		{api.KFixed32, 0, 0, api.OK}, {api.KFixed32, 0, 1<<32 - 1, api.OK}, {api.KFixed32, 1<<32 - 1, 1<<32 - 1, api.OK},
		{api.KFixed32, 0, 1 << 32, api.ErrSchema}, {api.KFixed32, 1 << 32, 1 << 32, api.ErrSchema},
		{api.KFixed32, 0, most, api.ErrSchema}, {api.KFixed32, 2, 1, api.ErrSchema},
		{api.KFixed64, 0, 0, api.OK}, {api.KFixed64, 0, most, api.OK}, {api.KFixed64, most, most, api.OK},
		{api.KFixed64, 1, 0, api.ErrSchema}, {api.KFixed64, most, most - 1, api.ErrSchema},
		{api.KFlag, 0, 0, api.OK}, {api.KFlag, 0, 1, api.ErrSchema}, {api.KFlag, 1, 1, api.ErrSchema}, {api.KFlag, 1, 0, api.ErrSchema},
		{api.KBytes, 0, 0, api.OK}, {api.KBytes, 9, 9, api.OK}, {api.KBytes, 9, 8, api.ErrSchema},
		{api.KBytes, 0, mostBytes, api.ErrLong}, {api.KBytes, mostBytes, mostBytes, api.ErrLong},
		{api.KBytes, 0, mostBytes + 1, api.ErrSchema}, {api.KBytes, 0, most, api.ErrSchema}, {api.KBytes, most, most, api.ErrSchema},
		{api.KText, 0, 0, api.OK}, {api.KText, 9, 9, api.OK}, {api.KText, 9, 8, api.ErrSchema},
		{api.KText, 0, mostBytes, api.ErrLong}, {api.KText, 0, mostBytes + 1, api.ErrSchema}, {api.KText, 0, most, api.ErrSchema},
		{api.KFloat, 0, 0, api.OK}, {api.KFloat, 0, 1 << 53, api.OK}, {api.KFloat, 0, 1<<53 + 1, api.ErrSchema},
		{api.KFloat, 1, 1, api.ErrSchema}, {api.KFloat, 1, 0, api.ErrSchema}, {api.KFloat, 0, most, api.ErrSchema},
		{api.KSub, 0, 0, api.OK}, {api.KSub, 0, 1, api.ErrSchema}, {api.KSub, 1, 1, api.ErrSchema}, {api.KSub, 1, 0, api.ErrSchema},
		{api.KList, 0, 0, api.OK}, {api.KList, 0, mostItems, api.OK}, {api.KList, mostItems, mostItems, api.OK},
		{api.KList, 0, mostItems + 1, api.ErrSchema}, {api.KList, 2, 1, api.ErrSchema}, {api.KList, 0, most, api.ErrSchema}, {api.KList, most, most, api.ErrSchema},
		{0, 0, 0, api.ErrSchema}, {10, 0, 0, api.ErrSchema}, {-1, 0, 0, api.ErrSchema}, {math.MaxInt, 0, 0, api.ErrSchema}, {math.MinInt, 0, 0, api.ErrSchema},
	} {
		s := slot(c.kind, c.least, c.most)
		what := "a slot by itself"
		checkValid(t, what, []api.Slot{s}, c.want)
		checkValid(t, "within a message", []api.Slot{sub(s)}, c.want)
		checkValid(t, "within a list", []api.Slot{list(0, 1, s)}, c.want)
		if t.Failed() {
			t.Fatalf("of kind %d, %d to %d", c.kind, c.least, c.most)
		}
	}
}

// Only messages and lists have a schema within them; these even one of no slots.
func TestValidSubOfEachKind(t *testing.T) {
	for kind := range 12 {
		for _, s := range [][]api.Slot{nil, {}, {slot(api.KFlag, 0, 0)}, {slot(api.KNum, 2, 1)}, {slot(api.KNum, 1, 2)}} {
			has := kind == api.KSub || kind == api.KList
			isKind := kind >= api.KNum && kind <= api.KList
			want := api.ErrSchema
			if isKind && (len(s) == 0 || has && s[0].Least <= s[0].Most) {
				want = api.OK
			}
			checkValid(t, "a kind with a Sub", []api.Slot{{No: 1, Kind: kind, Sub: s}}, want)
			if t.Failed() {
				t.Fatalf("of kind %d with %v", kind, s)
			}
		}
	}
}

func TestValidNumbersOfSlots(t *testing.T) {
	for _, c := range []struct {
		nos  []int
		want api.Errno
	}{
		{[]int{1}, api.OK}, {[]int{mostNo}, api.OK}, {[]int{1, 2, 3}, api.OK}, {[]int{1, mostNo}, api.OK}, {[]int{7, 900, 901}, api.OK},
		{[]int{0}, api.ErrSchema}, {[]int{-1}, api.ErrSchema}, {[]int{mostNo + 1}, api.ErrSchema},
		{[]int{math.MinInt}, api.ErrSchema}, {[]int{math.MaxInt}, api.ErrSchema},
		{[]int{0, 1}, api.ErrSchema}, {[]int{1, mostNo + 1}, api.ErrSchema}, {[]int{-1, 1}, api.ErrSchema},
		{[]int{1, 1}, api.ErrSchema}, {[]int{2, 1}, api.ErrSchema}, {[]int{1, 3, 2}, api.ErrSchema}, {[]int{1, 3, 3}, api.ErrSchema}, {[]int{5, 6, 5}, api.ErrSchema},
		{[]int{mostNo, mostNo}, api.ErrSchema}, {[]int{mostNo, 1}, api.ErrSchema},
	} {
		var s []api.Slot
		for _, no := range c.nos {
			s = append(s, api.Slot{No: no, Kind: api.KFlag})
		}
		checkValid(t, "slots", s, c.want)
		checkValid(t, "slots within a message", []api.Slot{sub(s...)}, c.want)
		checkValid(t, "slots within a list", []api.Slot{list(0, 3, s...)}, c.want)
		if t.Failed() {
			t.Fatalf("of the numbers %v", c.nos)
		}
	}
}

func flags(n int) []api.Slot { return row(slices.Repeat([]api.Slot{{Kind: api.KFlag}}, n)...) }

func TestValidMostSlots(t *testing.T) {
	for n := range 20 {
		want := api.OK
		if n > mostSlots {
			want = api.ErrSchema
		}
		checkValid(t, "so many slots", flags(n), want)
		checkValid(t, "so many within a message", []api.Slot{sub(flags(n)...)}, want)
		checkValid(t, "so many within a list", []api.Slot{list(0, 1, flags(n)...)}, want)
	}
	checkValid(t, "very many", flags(5000), api.ErrSchema)
}

// nested is a schema within schemas, so many in all, by the slots that wrap hands out.
func nested(within []api.Slot, deep int, wrap func(i int, s []api.Slot) api.Slot) []api.Slot {
	for i := range deep - 1 {
		within = []api.Slot{wrap(i, within)}
	}
	return within
}

func TestValidMostDeep(t *testing.T) {
	wraps := []func(i int, s []api.Slot) api.Slot{
		func(i int, s []api.Slot) api.Slot { return sub(s...) },
		func(i int, s []api.Slot) api.Slot { return list(0, 2, s...) },
		func(i int, s []api.Slot) api.Slot { return []api.Slot{sub(s...), list(1, 1, s...)}[i%2] },
	}
	for deep := 1; deep <= 9; deep++ {
		want := api.OK
		if deep > mostDeep {
			want = api.ErrSchema
		}
		for i, wrap := range wraps {
			// A schema of no slots counts too.
			for _, within := range [][]api.Slot{flags(1), nil} {
				checkValid(t, "so deep", nested(within, deep, wrap), want)
			}
			// Deep at its last slot only, behind others.
			last := wrap(i, nested(flags(1), max(deep-1, 1), wrap))
			if deep > 1 {
				checkValid(t, "so deep at the end", row(api.Slot{Kind: api.KFlag}, sub(), last), want)
			}
		}
		if t.Failed() {
			t.Fatalf("%d deep", deep)
		}
	}
}

func TestValidMostInAll(t *testing.T) {
	full := func() []api.Slot { return slices.Repeat([]api.Slot{sub(flags(15)...)}, 16) }
	checkValid(t, "16 and 16 times 15", row(full()...), api.OK)
	for at := range 16 {
		s := row(full()...)
		s[at].Sub = flags(16)
		checkValid(t, "one more", s, api.ErrSchema)
		s[15-at].Sub = flags(14)
		if at != 15-at {
			checkValid(t, "one more here, one fewer there", s, api.OK)
		}
		s = row(full()...)
		s[at] = list(0, 1, flags(15)...)
		s[at].No = at + 1
		checkValid(t, "one of them a list", s, api.OK)
	}
	// 1 + 5 + 5 * 10 + 5 * 10 * 4 = 256, deeper.
	deep := []api.Slot{sub(row(slices.Repeat([]api.Slot{list(0, 1, row(slices.Repeat([]api.Slot{sub(flags(4)...)}, 10)...)...)}, 5)...)...)}
	checkValid(t, "three deep", deep, api.OK)
	checkValid(t, "three deep and one more", append(deep, api.Slot{No: 2, Kind: api.KFlag}), api.ErrSchema)
	checkValid(t, "three deep and an empty one more", append(deep, api.Slot{No: 2, Kind: api.KSub}), api.ErrSchema)
	// As many as the numbers allow: it ends soon all the same.
	tower := flags(16)
	for range 5 {
		tower = row(slices.Repeat([]api.Slot{sub(tower...)}, 16)...)
	}
	checkSchema(t, "16 to the 6th", tower, api.ErrSchema)
}

// A schema that lies within itself has no end, and can't be.
func TestValidOfASchemaWithinItself(t *testing.T) {
	for _, kind := range []int{api.KSub, api.KList} {
		one := row(api.Slot{Kind: kind})
		one[0].Sub = one
		checkSchema(t, "one slot within itself", one, api.ErrSchema)
		many := row(slices.Repeat([]api.Slot{{Kind: kind}}, 16)...)
		for i := range many {
			many[i].Sub = many
		}
		checkSchema(t, "sixteen slots within themselves", many, api.ErrSchema)
	}
	// One whose kind has no Sub can't be either.
	odd := row(api.Slot{Kind: api.KNum})
	odd[0].Sub = odd
	checkSchema(t, "a number with itself as Sub", odd, api.ErrSchema)
}

// Each of these schemas has messages of MaxWire bytes and none longer; with one byte more, none can be.
func TestValidLongestMessage(t *testing.T) {
	const most = mostBytes
	for _, kind := range []int{api.KBytes, api.KText} {
		for _, c := range []struct {
			what string
			s    func(n uint64) []api.Slot
			n    uint64
		}{
			{"bytes", func(n uint64) []api.Slot { return []api.Slot{slot(kind, 0, n)} }, most - 5},
			{"bytes of just so many", func(n uint64) []api.Slot { return []api.Slot{slot(kind, n, n)} }, most - 5},
			{"of a great number", func(n uint64) []api.Slot { return []api.Slot{{No: mostNo, Kind: kind, Most: n}} }, most - 9},
			{"behind a flag", func(n uint64) []api.Slot { return row(slot(api.KFlag, 0, 0), slot(kind, 0, n)) }, most - 7},
			{"ahead of numbers", func(n uint64) []api.Slot {
				return row(slot(kind, 0, n), slot(api.KNum, 0, math.MaxUint64), slot(api.KFixed32, 0, 1), slot(api.KFixed64, 0, 1), slot(api.KFloat, 0, 1))
			}, most - 5 - 11 - 5 - 9 - 9},
			{"two", func(n uint64) []api.Slot { return row(slot(kind, 0, 1<<21), slot(kind, 0, n)) }, 1<<21 - 5 - 4},
			{"in a message", func(n uint64) []api.Slot { return []api.Slot{sub(slot(kind, 0, n))} }, most - 10},
			{"in a list of one", func(n uint64) []api.Slot { return []api.Slot{list(0, 1, slot(kind, 0, n))} }, most - 14},
			{"in a list of two", func(n uint64) []api.Slot { return row(list(0, 2, slot(kind, 0, 1<<19)), slot(kind, 0, n)) }, most - 4 - 2*(3+4+1<<19) - 5},
		} {
			checkValid(t, c.what, c.s(c.n), api.OK)
			checkValid(t, c.what+" and one more", c.s(c.n+1), api.ErrLong)
			if cdc, e := schema.Compile(c.s(c.n)); e == api.OK {
				if _, b := cdc.Range(); b != most {
					t.Errorf("%s: its longest message has %d bytes", c.what, b)
				}
			}
		}
	}
}

// Lists that have no items have no long ones.
func TestValidOfListsThatStayEmpty(t *testing.T) {
	long := slot(api.KBytes, 0, mostBytes)
	checkValid(t, "no items that would be too long", []api.Slot{list(0, 0, long)}, api.OK)
	checkValid(t, "one item that may be too long", []api.Slot{list(0, 1, long)}, api.ErrLong)
	checkValid(t, "no items with too many within", []api.Slot{list(0, 0, list(4096, 4096, list(4096, 4096, long)))}, api.OK)
	checkValid(t, "an item with no items", []api.Slot{list(0, 4096, list(0, 0, long))}, api.OK)
	checkValid(t, "no items that can't be", []api.Slot{list(0, 0, slot(api.KNum, 2, 1))}, api.ErrSchema)
	checkValid(t, "empty beside too long", row(list(0, 0, long), long), api.ErrLong)
}

// Lists within lists have more bytes than a word can count.
func TestValidOfListsWithinLists(t *testing.T) {
	for _, items := range []uint64{2, 64, 1024, 2048, 4095, 4096} {
		for _, most := range []uint64{0, 1, 1 << 10, 1 << 16, 1<<22 - 20, 1 << 22} {
			for deep := 1; deep <= mostDeep; deep++ {
				s := nested([]api.Slot{slot(api.KBytes, 0, most)}, deep, func(_ int, s []api.Slot) api.Slot { return list(0, items, s...) })
				checkSchema(t, "lists within lists", s, validByWords(s))
				s = nested([]api.Slot{slot(api.KBytes, most, most)}, deep, func(_ int, s []api.Slot) api.Slot { return list(items, items, s...) })
				checkSchema(t, "lists of just so many", s, validByWords(s))
			}
		}
	}
	// Sixteen of them side by side at each level but the last.
	s := []api.Slot{list(4096, 4096)}
	s = row(slices.Repeat([]api.Slot{list(4096, 4096, s...)}, 15)...)
	checkValid(t, "fifteen lists", s, api.ErrLong)
}

// A list whose longest has just 2^64 bytes, which a word would count as none.
func TestValidOfAListOfAWholeWord(t *testing.T) {
	var extra [4]uint64 // bytes beside the list at each level, the innermost first
	items := func() []api.Slot {
		s := []api.Slot{slot(api.KBytes, 0, extra[0])}
		for _, n := range extra[1:] {
			s = row(list(0, 4096, s...), slot(api.KBytes, 0, n))
		}
		return s
	}
	most := func() *big.Int {
		_, most := rangeByWords(items())
		return counted(most)
	}
	// As many as can be at each level, from the one that weighs most to the one that weighs least.
	want := new(big.Int).Lsh(big.NewInt(1), 52)
	for i := range extra {
		for bit := uint64(1 << 21); bit > 0; bit /= 2 {
			extra[i] += bit
			if most().Cmp(want) > 0 {
				extra[i] -= bit
			}
		}
	}
	if most().Cmp(want) != 0 {
		t.Fatalf("an item has at most %d bytes", most())
	}
	checkValid(t, "4096 items of 2^52 bytes", row(list(0, 4096, items()...)), api.ErrLong)
}

// ErrSchema comes ahead of ErrLong, wherever either stands.
func TestValidFirstError(t *testing.T) {
	long, odd := slot(api.KBytes, 0, mostBytes), slot(api.KNum, 2, 1)
	for _, s := range [][]api.Slot{
		row(long, odd), row(odd, long), row(long, sub(odd)), row(sub(odd), long), row(list(1, 1, long), odd), row(sub(long, odd)),
		{{No: 0, Kind: api.KBytes, Most: mostBytes}}, append(row(long), row(long)...),
		append(row(long), flags(17)...),
	} {
		checkValid(t, "both", s, api.ErrSchema)
	}
}

func TestValidOfDrawnSchemas(t *testing.T) {
	d := newDrawer(251)
	seen := map[api.Errno]int{}
	for range 6000 {
		d.left = 40
		s := d.level(1)
		d.spoil(s)
		want := validByWords(s)
		seen[want]++
		checkSchema(t, "a drawn one", s, want)
		if t.Failed() {
			t.Fatalf("%v", s)
		}
	}
	if seen[api.OK] < 500 || seen[api.ErrSchema] < 500 || seen[api.ErrLong] < 20 {
		t.Errorf("drawn were %v", seen)
	}
}

// spoil changes one thing of a schema, somewhere in it; what comes of it may be right too.
func (d *drawer) spoil(s []api.Slot) {
	if len(s) == 0 {
		return
	}
	p := &s[d.Intn(len(s))]
	if len(p.Sub) > 0 && d.Intn(3) > 0 {
		d.spoil(p.Sub)
		return
	}
	edge := []uint64{0, 1, 2, 4095, 4096, 4097, 1<<22 - 20, 1 << 22, 1<<22 + 1, 1<<32 - 1, 1 << 32, 1 << 53, 1<<53 + 1, math.MaxUint64}
	switch d.Intn(6) {
	case 0:
		p.No = []int{0, -1, 1, mostNo, mostNo + 1, p.No + 1, p.No - 1}[d.Intn(7)]
	case 1:
		p.Kind = d.Intn(11)
	case 2:
		p.Least = edge[d.Intn(len(edge))]
	case 3, 4:
		p.Most = edge[d.Intn(len(edge))]
	case 5:
		p.Sub = []api.Slot{{No: d.Intn(2), Kind: api.KFlag}}
	}
}

// P8.2

// A codec is of the schema as it was.
func TestCompileTakesTheSchemaAsItIs(t *testing.T) {
	d := newDrawer(252)
	for range 300 {
		s := d.schema()
		was := copySchema(s)
		c := compiled(t, s)
		least, most := c.Range()
		v := d.message(was)
		spoilAll(s)
		checkValue(t, c, was, v)
		checkDecode(t, c, was, bytesByWords(was, v))
		if a, b := c.Range(); a != least || b != most {
			t.Errorf("Range is %d, %d, and was %d, %d", a, b, least, most)
		}
	}
}

func copySchema(s []api.Slot) []api.Slot {
	out := slices.Clone(s)
	for i := range out {
		out[i].Sub = copySchema(out[i].Sub)
	}
	return out
}

func spoilAll(s []api.Slot) {
	for i := range s {
		spoilAll(s[i].Sub)
		s[i] = api.Slot{No: -1, Kind: api.KFixed64, Least: 7, Most: 6}
	}
}

// Two codecs, of one schema or of two, know nothing of one another, and the order of calls does not matter.
func TestCodecsByThemselves(t *testing.T) {
	d := newDrawer(253)
	for range 100 {
		s, other := d.schema(), d.schema()
		a, b, c := compiled(t, s), compiled(t, s), compiled(t, other)
		for range 4 {
			v, w := d.message(s), d.message(other)
			checkValue(t, a, s, v)
			checkValue(t, c, other, w)
			checkDecode(t, a, s, bytesByWords(other, w))
			checkDecode(t, c, other, bytesByWords(s, v))
			checkValue(t, b, s, w)
			checkDecode(t, b, s, bytesByWords(s, v))
		}
	}
}
