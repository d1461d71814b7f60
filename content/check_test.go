package content_test

import (
	"math"
	"slices"
	"strings"
	"testing"

	"pawl/api"
	"pawl/content"
)

// Each content that is held here goes through Encode and Print too, and back, if it is one.

func wanted(t *testing.T, what string, c api.Content, want api.Errno) {
	t.Helper()
	if e := content.Check(c); e != want {
		t.Errorf("%s: %v, not %v", what, e, want)
	}
	checkContent(t, c)
}

func right(t *testing.T, what string, c api.Content) {
	t.Helper()
	wanted(t, what, c, api.OK)
}

func wrong(t *testing.T, what string, c api.Content) {
	t.Helper()
	wanted(t, what, c, api.ErrContent)
}

// plain is a content of each kind.
func plain(kind int) api.Content {
	switch kind {
	case api.CText:
		return api.Content{Kind: kind, Text: "hi"}
	case api.CReceipt:
		return api.Content{Kind: kind, Number: 1, Marks: []uint32{3}}
	case api.CPlace:
		return api.Content{Kind: kind, Lat: 52.5, Long: -0.25, Text: "here"}
	case api.CReact:
		return api.Content{Kind: kind, Number: 7, Text: "+"}
	case api.CTimer:
		return api.Content{Kind: kind, Number: 60}
	}
	return api.Content{Kind: kind, Text: "a.txt", Number: 5, Key: api.Key{1, 31: 2}}
}

// P9.1

// Of examples 1 to 3.
func TestCheckExamples(t *testing.T) {
	right(t, "hi", api.Content{Kind: api.CText, Text: "hi"})
	right(t, "the empty text", api.Content{Kind: api.CText})
	wrong(t, "ff", api.Content{Kind: api.CText, Text: "\xff"})
	right(t, "3, 300", api.Content{Kind: api.CReceipt, Number: 2, Marks: []uint32{3, 300}})
	wrong(t, "3, 3", api.Content{Kind: api.CReceipt, Number: 2, Marks: []uint32{3, 3}})
	right(t, "a place", api.Content{Kind: api.CPlace, Lat: 52.5, Long: -0.25})
	for _, x := range []float64{90.5, math.NaN(), math.Copysign(0, -1)} {
		wanted(t, "a Lat", api.Content{Kind: api.CPlace, Lat: x}, api.ErrPlace)
	}
	wrong(t, "a text with a Lat", api.Content{Kind: api.CText, Lat: 1})
}

func TestCheckKinds(t *testing.T) {
	for _, kind := range kinds {
		right(t, "one of the six", plain(kind))
	}
	for _, kind := range []int{0, 7, 8, 9, -1, -3, 255, 256, 257, 1 << 32, 1<<32 + 1, 1<<32 + 3, math.MaxInt, math.MinInt, math.MinInt + 3} {
		for _, other := range kinds {
			c := plain(other)
			c.Kind = kind
			wrong(t, "no kind", c)
		}
		wrong(t, "no kind", api.Content{Kind: kind})
		wrong(t, "no kind and no Lat", api.Content{Kind: kind, Lat: math.NaN()})
	}
	wrong(t, "the zero content", api.Content{})
}

// bounds are those of the texts and the numbers, by kind, as the table has them; texts of kinds that have none: -1.
var bounds = map[int]struct {
	leastText, mostText     int
	leastNumber, mostNumber uint64
}{
	api.CText:    {0, 2000, 0, 0},
	api.CReceipt: {-1, -1, 1, 2},
	api.CPlace:   {0, 200, 0, 0},
	api.CReact:   {1, 64, 0, 1<<32 - 1},
	api.CTimer:   {-1, -1, 0, 31536000},
	api.CFile:    {1, 255, 0, 1 << 40},
}

func TestCheckBoundsOfTexts(t *testing.T) {
	for _, kind := range kinds {
		b := bounds[kind]
		for _, n := range []int{0, 1, 2, 63, 64, 65, 199, 200, 201, 254, 255, 256, 1999, 2000, 2001, 5000, 1 << 20} {
			c := plain(kind)
			c.Text = strings.Repeat("x", n)
			if n >= b.leastText && n <= b.mostText || n == 0 && b.mostText < 0 {
				right(t, "within", c)
			} else {
				wrong(t, "beyond", c)
			}
			// Bytes count, not characters.
			c.Text = strings.Repeat("é", n)
			if 2*n >= b.leastText && 2*n <= b.mostText || n == 0 && b.mostText < 0 {
				right(t, "within", c)
			} else {
				wrong(t, "beyond", c)
			}
		}
	}
}

func TestCheckBoundsOfNumbers(t *testing.T) {
	for _, kind := range kinds {
		b := bounds[kind]
		for _, n := range []uint64{0, 1, 2, 3, 31535999, 31536000, 31536001, 1<<32 - 2, 1<<32 - 1, 1 << 32, 1<<32 + 1, 1<<40 - 1, 1 << 40, 1<<40 + 1, 1 << 63, math.MaxUint64} {
			c := plain(kind)
			c.Number = n
			if n >= b.leastNumber && n <= b.mostNumber {
				right(t, "within", c)
			} else {
				wrong(t, "beyond", c)
			}
		}
	}
}

// Texts that are no UTF-8 in each way, and such as are close to it.
func TestCheckTexts(t *testing.T) {
	for _, kind := range []int{api.CText, api.CPlace, api.CReact, api.CFile} {
		c := plain(kind)
		for _, text := range []string{
			"\x00", "a\x00b", "\n", "\x7f", "\u0080", "\u07ff", "\u0800", "\ud7ff", "\ue000", "\ufffd", "\ufeff", "\ufffe", "\uffff", "\U00010000", "\U0010ffff", "aé漢", "\U0001f600ab",
		} {
			c.Text = text
			right(t, "UTF-8", c)
		}
		for _, text := range []string{
			"\x80", "\xbf", "a\x80", "\xc2", "\xe0\xa0", "\xf0\x90\x80", "\xc2a", "\xe0\xa0a", "\xf0\x90\x80a",
			"\xc0\x80", "\xc1\xbf", "\xe0\x80\x80", "\xe0\x9f\xbf", "\xf0\x80\x80\x80", "\xf0\x8f\xbf\xbf",
			"\xed\xa0\x80", "\xed\xbf\xbf", "\xf4\x90\x80\x80", "\xf5\x80\x80\x80", "\xf8\x88\x80\x80\x80", "\xfe", "\xff", "ok\xff", "\xffok", "\ufffd\xff",
		} {
			c.Text = text
			wrong(t, "no UTF-8", c)
		}
	}
}

func TestCheckMarks(t *testing.T) {
	const top = math.MaxUint32
	c := plain(api.CReceipt)
	for _, m := range [][]uint32{{0}, {top}, {0, 1}, {0, top}, {top - 1, top}, {1, 2, 3}, {5, 6, 1 << 31, top}} {
		c.Marks = m
		right(t, "rising", c)
	}
	for _, m := range [][]uint32{nil, {}, {0, 0}, {top, top}, {1, 0}, {top, 0}, {1, 2, 2}, {1, 1, 2}, {1, 3, 2}, {2, 1, 3}, {1 << 31, 1}, {3, 4, 5, 6, 6}} {
		c.Marks = m
		wrong(t, "not rising, or none", c)
	}
	many := make([]uint32, 102)
	for i := range many {
		many[i] = uint32(3 * i)
	}
	for n := range len(many) + 1 {
		c.Marks = many[:n]
		if n >= 1 && n <= 100 {
			right(t, "so many", c)
		} else {
			wrong(t, "too few or too many", c)
		}
	}
	c.Marks = make([]uint32, 1<<20)
	wrong(t, "a million", c)
	// Each place at which one may not rise.
	for i := 1; i < 100; i++ {
		c.Marks = slices.Clone(many[:100])
		c.Marks[i] = c.Marks[i-1]
		wrong(t, "two alike", c)
	}
}

// floats that no place has, however far its bounds are.
var nowhere = []float64{math.NaN(), math.Float64frombits(1<<64 - 1), math.Float64frombits(0x7ff0000000000001), math.Inf(1), math.Inf(-1), math.Copysign(0, -1), 180.5, -180.5, 1e300, -1e300, math.MaxFloat64, math.Nextafter(180, 181), math.Nextafter(-180, -181)}

func TestCheckPlaces(t *testing.T) {
	tiny := math.SmallestNonzeroFloat64
	within := []float64{0, tiny, -tiny, 1e-7, 0.5, -1, 89.99, 90, -90, math.Nextafter(90, 0), math.Nextafter(-90, 0)}
	for _, lat := range within {
		for _, long := range within {
			right(t, "a place", api.Content{Kind: api.CPlace, Lat: lat, Long: long})
		}
	}
	for _, x := range []float64{math.Nextafter(90, 91), math.Nextafter(-90, -91), 90.5, 135, -135, 180, -180, math.Nextafter(180, 0)} {
		right(t, "a Long", api.Content{Kind: api.CPlace, Long: x, Lat: 3})
		wanted(t, "a Lat", api.Content{Kind: api.CPlace, Lat: x, Long: 3}, api.ErrPlace)
	}
	for _, x := range nowhere {
		wanted(t, "a Lat", api.Content{Kind: api.CPlace, Lat: x, Long: 3}, api.ErrPlace)
		wanted(t, "a Long", api.Content{Kind: api.CPlace, Lat: 3, Long: x}, api.ErrPlace)
		wanted(t, "both", api.Content{Kind: api.CPlace, Lat: x, Long: x}, api.ErrPlace)
	}
}

// Fields that a kind does not have.
func TestCheckOtherFields(t *testing.T) {
	for _, kind := range kinds {
		has := func(of ...int) bool { return slices.Contains(of, kind) }
		if c := plain(kind); !has(api.CText, api.CPlace, api.CReact, api.CFile) {
			for _, c.Text = range []string{"x", " ", "\x00", "\xff", strings.Repeat("x", 3000)} {
				wrong(t, "a Text", c)
			}
		}
		if c := plain(kind); !has(api.CReceipt) {
			for _, c.Marks = range [][]uint32{{0}, {1, 2}, {2, 1}, make([]uint32, 101)} {
				wrong(t, "Marks", c)
			}
			c.Marks = []uint32{}
			right(t, "empty Marks", c)
		}
		if c := plain(kind); !has(api.CPlace) {
			for _, x := range append([]float64{1, -1, math.SmallestNonzeroFloat64, 90, 180}, nowhere...) {
				c.Lat, c.Long = x, 0
				wrong(t, "a Lat", c)
				c.Lat, c.Long = 0, x
				wrong(t, "a Long", c)
			}
		}
		if c := plain(kind); !has(api.CReceipt, api.CReact, api.CTimer, api.CFile) {
			for _, c.Number = range []uint64{1, 2, 1 << 32, math.MaxUint64} {
				wrong(t, "a Number", c)
			}
		}
		if c := plain(kind); !has(api.CFile) {
			for i := range c.Key {
				c.Key = api.Key{}
				c.Key[i] = 1
				wrong(t, "a Key", c)
			}
		}
	}
}

// Of a place its Lat and Long are asked first, whatever else is wrong; of another kind they are fields like all others.
func TestCheckOrder(t *testing.T) {
	for _, x := range nowhere {
		for _, c := range []api.Content{
			{Number: 1}, {Marks: []uint32{1}}, {Key: api.Key{1}}, {Text: "\xff"}, {Text: strings.Repeat("x", 201)}, {Text: strings.Repeat("x", 3000)}, {Marks: make([]uint32, 200)},
		} {
			c.Kind = api.CPlace
			wrong(t, "without it", c)
			c.Lat = x
			wanted(t, "a Lat", c, api.ErrPlace)
			c.Lat, c.Long = 1, x
			wanted(t, "a Long", c, api.ErrPlace)
			for _, kind := range []int{0, 1, 2, 4, 5, 6, 7} {
				c.Kind = kind
				wrong(t, "no place", c)
			}
		}
	}
}

// Drawn contents, as they are and with one field changed, or two.
func TestCheckOfDrawn(t *testing.T) {
	d := newDrawer(304)
	seen := map[api.Errno]int{}
	for range 10000 {
		c := d.any()
		if e := checkContent(t, c); e != api.OK {
			t.Fatalf("%v is drawn as a content", c)
		}
		c = d.twist(c)
		seen[checkContent(t, c)]++
		seen[checkContent(t, d.twist(c))]++
	}
	if seen[api.OK] < 1500 || seen[api.ErrContent] < 1500 || seen[api.ErrPlace] < 250 {
		t.Errorf("what came: %v", seen)
	}
}
