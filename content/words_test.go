package content_test

import (
	"bytes"
	"encoding/binary"
	"encoding/hex"
	"errors"
	"fmt"
	"math"
	"math/big"
	"math/rand"
	"regexp"
	"slices"
	"strings"
	"testing"
	"unicode/utf8"

	"pawl/api"
	"pawl/content"
	"pawl/schema"
	"pawl/wire"
)

// What the chapter says, done as it is said, by layers 7 and 8, by great numbers and by Go's own library; and what several tests draw and hold against each other.

var kinds = []int{api.CText, api.CReceipt, api.CPlace, api.CReact, api.CTimer, api.CFile}

// checkByWords is P9.1 and the table of 9.1.
func checkByWords(c api.Content) api.Errno {
	if c.Kind == 3 && !(placeByWords(c.Lat, 90) && placeByWords(c.Long, 180)) {
		return api.ErrPlace
	}
	if !contentByWords(c) {
		return api.ErrContent
	}
	return api.OK
}

// placeByWords looks at the bits: 1 of sign, 11 of exponent, 52 of fraction.
func placeByWords(x float64, most int64) bool {
	n := math.Float64bits(x)
	if n>>52%(1<<11) == 1<<11-1 || n == 1<<63 {
		return false
	}
	size := exact(x)
	return size.Abs(size).Cmp(big.NewRat(most, 1)) <= 0
}

func contentByWords(c api.Content) bool {
	noText, noMarks, noNumber, noKey := c.Text == "", len(c.Marks) == 0, c.Number == 0, c.Key == api.Key{}
	noPlace := math.Float64bits(c.Lat) == 0 && math.Float64bits(c.Long) == 0
	switch c.Kind {
	case 1:
		return textByWords(c.Text, 0, 2000) && noMarks && noNumber && noKey && noPlace
	case 2:
		return (c.Number == 1 || c.Number == 2) && len(c.Marks) >= 1 && len(c.Marks) <= 100 && rising(c.Marks) && noText && noKey && noPlace
	case 3:
		return textByWords(c.Text, 0, 200) && noMarks && noNumber && noKey
	case 4:
		return c.Number <= 4294967295 && textByWords(c.Text, 1, 64) && noMarks && noKey && noPlace
	case 5:
		return c.Number <= 31536000 && noText && noMarks && noKey && noPlace
	case 6:
		return textByWords(c.Text, 1, 255) && c.Number <= 1099511627776 && noMarks && noPlace
	}
	return false
}

func textByWords(s string, least, most int) bool {
	return len(s) >= least && len(s) <= most && utf8.ValidString(s)
}

func rising(marks []uint32) bool {
	sorted := slices.Clone(marks)
	slices.Sort(sorted)
	return slices.Equal(slices.Compact(sorted), marks)
}

func exact(x float64) *big.Rat { return new(big.Rat).SetFloat64(x) }

// slotsByWords is the table of 9.2.
func slotsByWords(kind int) []api.Slot {
	first := api.Slot{No: 1, Kind: api.KNum, Least: uint64(kind), Most: uint64(kind)}
	switch kind {
	case 1:
		return []api.Slot{first, {No: 2, Kind: api.KText, Most: 2000}}
	case 2:
		return []api.Slot{first, {No: 2, Kind: api.KNum, Least: 1, Most: 2}, {No: 3, Kind: api.KList, Least: 1, Most: 100, Sub: []api.Slot{{No: 1, Kind: api.KNum, Most: 4294967295}}}}
	case 3:
		return []api.Slot{first, {No: 2, Kind: api.KFloat, Most: 90}, {No: 3, Kind: api.KFloat, Most: 180}, {No: 4, Kind: api.KText, Most: 200}}
	case 4:
		return []api.Slot{first, {No: 2, Kind: api.KNum, Most: 4294967295}, {No: 3, Kind: api.KText, Least: 1, Most: 64}}
	case 5:
		return []api.Slot{first, {No: 2, Kind: api.KNum, Most: 31536000}}
	case 6:
		return []api.Slot{first, {No: 2, Kind: api.KText, Least: 1, Most: 255}, {No: 3, Kind: api.KNum, Most: 1099511627776}, {No: 4, Kind: api.KBytes, Least: 32, Most: 32}}
	}
	return nil
}

// bytesByWords is a content's bytes, field by field.
func bytesByWords(c api.Content) []byte {
	var out []byte
	number := func(no int, n uint64) {
		out = binary.AppendUvarint(append(out, byte(no<<3)), n)
	}
	float := func(no int, x float64) {
		out = binary.LittleEndian.AppendUint64(append(out, byte(no<<3|1)), math.Float64bits(x))
	}
	data := func(no int, b []byte) {
		out = binary.AppendUvarint(append(out, byte(no<<3|2)), uint64(len(b)))
		out = append(out, b...)
	}
	number(1, uint64(c.Kind))
	switch c.Kind {
	case 1:
		data(2, []byte(c.Text))
	case 2:
		number(2, c.Number)
		var list []byte
		for _, m := range c.Marks {
			item := binary.AppendUvarint([]byte{8}, uint64(m))
			list = append(append(list, byte(len(item))), item...)
		}
		data(3, list)
	case 3:
		float(2, c.Lat)
		float(3, c.Long)
		data(4, []byte(c.Text))
	case 4:
		number(2, c.Number)
		data(3, []byte(c.Text))
	case 5:
		number(2, c.Number)
	case 6:
		data(2, []byte(c.Text))
		number(3, c.Number)
		data(4, c.Key[:])
	}
	return out
}

// readByWords is P9.3.
func readByWords(t *testing.T, b []byte) (api.Content, *api.Fault) {
	wrong := func(at int, why api.Errno) (api.Content, *api.Fault) {
		return api.Content{}, &api.Fault{At: at, Why: why}
	}
	fields, at, e := wire.Decode(b)
	if e != api.OK {
		return wrong(at, e)
	}
	if len(fields) == 0 {
		return wrong(len(b), api.ErrSlots)
	}
	if fields[0].No != 1 {
		return wrong(0, api.ErrSlots)
	}
	if fields[0].Type != api.WireNumber {
		return wrong(0, api.ErrKind)
	}
	if fields[0].Num < 1 || fields[0].Num > 6 {
		return wrong(0, api.ErrContent)
	}
	kind := int(fields[0].Num)
	codec, e := schema.Compile(slotsByWords(kind))
	if e != api.OK {
		t.Fatalf("the schema of kind %d: %v", kind, e)
	}
	v, err := codec.Decode(b)
	var f *api.Fault
	if errors.As(err, &f) {
		return wrong(f.At, f.Why)
	}
	c := api.Content{Kind: kind}
	switch kind {
	case 1:
		c.Text = string(v.Parts[1].Data)
	case 2:
		c.Number = v.Parts[1].Num
		for _, item := range v.Parts[2].Parts {
			c.Marks = append(c.Marks, uint32(item.Parts[0].Num))
		}
		if !rising(c.Marks) {
			return wrong(len(b)-len(fields[2].Data)-len(binary.AppendUvarint(nil, uint64(len(fields[2].Data))))-1, api.ErrContent)
		}
	case 3:
		c.Lat, c.Long = math.Float64frombits(v.Parts[1].Num), math.Float64frombits(v.Parts[2].Num)
		c.Text = string(v.Parts[3].Data)
	case 4:
		c.Number, c.Text = v.Parts[1].Num, string(v.Parts[2].Data)
	case 5:
		c.Number = v.Parts[1].Num
	case 6:
		c.Text, c.Number, c.Key = string(v.Parts[1].Data), v.Parts[2].Num, api.Key(v.Parts[3].Data)
	}
	return c, nil
}

// lineByWords is the table of 9.3.
func lineByWords(c api.Content) string {
	switch c.Kind {
	case 1:
		return "text " + quotedByWords(c.Text)
	case 2:
		out := []string{"came", "read"}[c.Number-1]
		for _, m := range c.Marks {
			out += fmt.Sprintf(" %d", m)
		}
		return out
	case 3:
		return fmt.Sprintf("place %016x %016x %s", math.Float64bits(c.Lat), math.Float64bits(c.Long), quotedByWords(c.Text))
	case 4:
		return fmt.Sprintf("react %d %s", c.Number, quotedByWords(c.Text))
	case 5:
		return fmt.Sprintf("timer %d", c.Number)
	}
	return fmt.Sprintf("file %s %d %x", quotedByWords(c.Text), c.Number, c.Key[:])
}

func quotedByWords(s string) string {
	out := []string{`"`}
	for len(s) > 0 {
		r, n := utf8.DecodeRuneInString(s)
		s = s[n:]
		if r < 32 || r > 126 {
			out = append(out, fmt.Sprintf(`\u{%x}`, r))
			continue
		}
		if r == '"' || r == '\\' {
			out = append(out, `\`)
		}
		out = append(out, string(r))
	}
	return strings.Join(append(out, `"`), "")
}

var (
	isNumber = regexp.MustCompile(`^(0|[1-9][0-9]*)$`)
	isFloat  = regexp.MustCompile(`^[0-9a-f]{16}$`)
	isKey    = regexp.MustCompile(`^[0-9a-f]{64}$`)
	isQuoted = regexp.MustCompile(`^"([ !#-\[\]-~]|\\"|\\\\|\\u\{(0|[1-9a-f][0-9a-f]*)\})*"$`)
	escapes  = regexp.MustCompile(`\\(["\\]|u\{[0-9a-f]*\})`)
)

// parsing is P9.5, thing by thing; wrong is set at the first that is.
type parsing struct {
	s     string
	p     int
	wrong bool
}

// parseByWords answers the content, or the place of the error.
func parseByWords(s string) (c api.Content, at int, ok bool) {
	p := &parsing{s: s}
	word := s
	if i := strings.IndexByte(s, ' '); i >= 0 {
		word = s[:i]
	}
	p.p = len(word)
	switch word {
	case "text":
		c.Kind = 1
		c.Text = p.quoted(0, 2000)
	case "came", "read":
		c.Kind, c.Number = 2, 1
		if word == "read" {
			c.Number = 2
		}
		c.Marks = p.marks()
	case "place":
		c.Kind = 3
		c.Lat = p.float(90)
		c.Long = p.float(180)
		c.Text = p.quoted(0, 200)
	case "react":
		c.Kind = 4
		c.Number = p.number("4294967295")
		c.Text = p.quoted(1, 64)
	case "timer":
		c.Kind = 5
		c.Number = p.number("31536000")
	case "file":
		c.Kind = 6
		c.Text = p.quoted(1, 255)
		c.Number = p.number("1099511627776")
		p.key(&c.Key)
	default:
		return api.Content{}, 0, false
	}
	if p.wrong || p.p < len(s) {
		return api.Content{}, p.p, false
	}
	return c, 0, true
}

// begin tells whether a thing begins; p.p is its first byte then.
func (p *parsing) begin() bool {
	if p.wrong {
		return false
	}
	if p.p == len(p.s) || p.s[p.p] != ' ' {
		p.wrong = true
		return false
	}
	p.p++
	return true
}

// take goes on behind a thing, if it is right.
func (p *parsing) take(thing string, right bool) bool {
	if !right {
		p.wrong = true
		return false
	}
	p.p += len(thing)
	return true
}

// word is what reaches up to the next blank or the end.
func (p *parsing) word() string {
	end := p.p
	for end < len(p.s) && p.s[end] != ' ' {
		end++
	}
	return p.s[p.p:end]
}

func great(digits string) *big.Int {
	n, _ := new(big.Int).SetString(digits, 10)
	return n
}

func (p *parsing) number(most string) uint64 {
	if !p.begin() {
		return 0
	}
	thing := p.word()
	if !p.take(thing, isNumber.MatchString(thing) && great(thing).Cmp(great(most)) <= 0) {
		return 0
	}
	return great(thing).Uint64()
}

func (p *parsing) marks() []uint32 {
	var out []uint32
	for !p.wrong && (len(out) == 0 || p.p < len(p.s)) {
		was := *p
		n := uint32(p.number("4294967295"))
		if !p.wrong && (len(out) == 100 || len(out) > 0 && n <= out[len(out)-1]) {
			p.wrong, p.p = true, was.p+1
		}
		out = append(out, n)
	}
	return out
}

func (p *parsing) float(most int64) float64 {
	if !p.begin() {
		return 0
	}
	thing := p.word()
	if !isFloat.MatchString(thing) {
		p.wrong = true
		return 0
	}
	b, _ := hex.DecodeString(thing)
	x := math.Float64frombits(binary.BigEndian.Uint64(b))
	p.take(thing, placeByWords(x, most))
	return x
}

func (p *parsing) key(k *api.Key) {
	if !p.begin() {
		return
	}
	thing := p.word()
	if p.take(thing, isKey.MatchString(thing)) {
		hex.Decode(k[:], []byte(thing))
	}
}

func (p *parsing) quoted(least, most int) string {
	if !p.begin() {
		return ""
	}
	end := p.p + 1
	for end < len(p.s) && p.s[end] != '"' {
		if p.s[end] == '\\' {
			end++
		}
		end++
	}
	if end >= len(p.s) {
		p.wrong = true
		return ""
	}
	thing := p.s[p.p : end+1]
	if !isQuoted.MatchString(thing) {
		p.wrong = true
		return ""
	}
	possible := true
	text := escapes.ReplaceAllStringFunc(thing[1:len(thing)-1], func(e string) string {
		if e[1] != 'u' {
			return e[1:]
		}
		n, _ := new(big.Int).SetString(e[3:len(e)-1], 16)
		if !n.IsInt64() || n.Int64() > 0x10ffff || n.Int64() >= 0xd800 && n.Int64() <= 0xdfff || n.Int64() >= 32 && n.Int64() <= 126 {
			possible = false
			return ""
		}
		return string(rune(n.Int64()))
	})
	p.take(thing, possible && textByWords(text, least, most))
	return text
}

// same takes nil and empty lists as alike, and floats by their bits.
func same(a, b api.Content) bool {
	return a.Kind == b.Kind && a.Text == b.Text && slices.Equal(a.Marks, b.Marks) && math.Float64bits(a.Lat) == math.Float64bits(b.Lat) && math.Float64bits(a.Long) == math.Float64bits(b.Long) && a.Number == b.Number && a.Key == b.Key
}

func zero(c api.Content) bool { return same(c, api.Content{}) && c.Marks == nil }

// checkFault holds an error against a fault, nil against nil.
func checkFault(t *testing.T, what string, err error, want *api.Fault) {
	t.Helper()
	if want == nil {
		if err != nil {
			t.Errorf("%s: %v, not nil", what, err)
		}
		return
	}
	f, ok := err.(*api.Fault)
	if !ok || f == nil || *f != *want || !errors.Is(err, want.Why) {
		t.Errorf("%s: %v, not %v", what, err, want)
	}
}

// checkContent holds Check, Encode and Print of c against the words, and against what Decode and Parse make of them (P9.8); it answers what Check must.
func checkContent(t *testing.T, c api.Content) api.Errno {
	t.Helper()
	e := checkByWords(c)
	if got := content.Check(c); got != e {
		t.Fatalf("Check(%v): %v, not %v", c, got, e)
	}
	b, err := content.Encode(c)
	line, printed := content.Print(c)
	if e != api.OK {
		checkFault(t, "Encode", err, &api.Fault{Why: e})
		if b != nil || line != "" || printed != e || t.Failed() {
			t.Fatalf("%v: %x, %v; %q, %v, not %v", c, b, err, line, printed, e)
		}
		return e
	}
	if err != nil || !bytes.Equal(b, bytesByWords(c)) {
		t.Fatalf("Encode(%v): %x, %v, not %x", c, b, err, bytesByWords(c))
	}
	if printed != api.OK || line != lineByWords(c) {
		t.Fatalf("Print(%v): %q, %v, not %q", c, line, printed, lineByWords(c))
	}
	if back, err := content.Decode(b); err != nil || !same(back, c) {
		t.Fatalf("Decode(%x): %v, %v, not %v", b, back, err, c)
	}
	if back, at, e := content.Parse(line); e != api.OK || at != 0 || !same(back, c) {
		t.Fatalf("Parse(%q): %v, %d, %v, not %v", line, back, at, e, c)
	}
	return e
}

// checkDecode holds Decode of b against the words, and what it takes against Encode (P9.8); it answers the reason why b is refused.
func checkDecode(t *testing.T, b []byte) api.Errno {
	t.Helper()
	want, f := readByWords(t, b)
	got, err := content.Decode(b)
	checkFault(t, "Decode", err, f)
	if f != nil {
		if !zero(got) || t.Failed() {
			t.Fatalf("Decode(%.200x): %v, %v, not %v", b, got, err, f)
		}
		return f.Why
	}
	again, err := content.Encode(got)
	if !same(got, want) || err != nil || !bytes.Equal(again, b) || t.Failed() {
		t.Fatalf("Decode(%.200x): %v, not %v; again %x, %v", b, got, want, again, err)
	}
	return api.OK
}

// checkParse holds Parse of s against the words, and what it takes against Print (P9.8); it answers whether s is taken.
func checkParse(t *testing.T, s string) bool {
	t.Helper()
	want, place, ok := parseByWords(s)
	got, at, e := content.Parse(s)
	if !ok {
		if !zero(got) || at != place || e != api.ErrContent {
			t.Fatalf("Parse(%q): %v, %d, %v, not an error at %d", s, got, at, e, place)
		}
		return false
	}
	if e != api.OK || at != 0 || !same(got, want) {
		t.Fatalf("Parse(%q): %v, %d, %v, not %v", s, got, at, e, want)
	}
	if again, e := content.Print(got); again != s || e != api.OK {
		t.Fatalf("Parse(%q): again %q, %v", s, again, e)
	}
	return true
}

// drawer draws contents.
type drawer struct{ *rand.Rand }

func newDrawer(seed int64) drawer { return drawer{rand.New(rand.NewSource(seed))} }

// content is one of that kind, often at its bounds.
func (d drawer) content(kind int) api.Content {
	c := api.Content{Kind: kind}
	switch kind {
	case api.CText:
		c.Text = d.text(int(d.between(0, uint64(d.pick(20, 2000)))))
	case api.CReceipt:
		c.Number, c.Marks = 1+uint64(d.Intn(2)), d.marks(int(d.between(1, uint64(d.pick(6, 100)))))
	case api.CPlace:
		c.Lat, c.Long, c.Text = d.float(90), d.float(180), d.text(int(d.between(0, uint64(d.pick(20, 200)))))
	case api.CReact:
		c.Number, c.Text = d.between(0, 1<<32-1), d.text(int(d.between(1, 64)))
	case api.CTimer:
		c.Number = d.between(0, 31536000)
	case api.CFile:
		c.Text, c.Number = d.text(int(d.between(1, uint64(d.pick(20, 255))))), d.between(0, 1<<40)
		d.Read(c.Key[:])
	}
	return c
}

func (d drawer) any() api.Content { return d.content(kinds[d.Intn(len(kinds))]) }

// pick is mostly the first.
func (d drawer) pick(a, b int) int {
	if d.Intn(4) > 0 {
		return a
	}
	return b
}

// between is often one of the bounds.
func (d drawer) between(least, most uint64) uint64 {
	switch d.Intn(6) {
	case 0:
		return least
	case 1:
		return most
	}
	return least + (d.Uint64()>>d.Intn(64))%(most-least+1)
}

// text is n bytes of characters of all lengths, those with a form of their own in lines among them.
func (d drawer) text(n int) string {
	var out []byte
	for len(out) < n {
		x := rune(d.Intn(0x110000) >> d.Intn(21))
		switch d.Intn(4) {
		case 0:
			x = []rune("\"\\ ~\x00\x1f\x7f\u0080u{}\ufffd")[d.Intn(12)]
		case 1:
			x = rune(32 + d.Intn(95))
		}
		if c := []byte(string(x)); len(out)+len(c) <= n {
			out = append(out, c...)
		}
	}
	return string(out)
}

func (d drawer) marks(n int) []uint32 {
	var out []uint32
	for len(out) < n {
		out = append(out, d.Uint32()>>d.Intn(32))
		slices.Sort(out)
		out = slices.Compact(out)
	}
	return out
}

// float is one from -most to most that is not -0.
func (d drawer) float(most float64) float64 {
	x := d.Float64() * most
	switch d.Intn(8) {
	case 0:
		x = most
	case 1:
		x = 0
	case 2:
		x = math.Float64frombits(d.Uint64() % math.Float64bits(most))
	}
	if d.Intn(2) == 0 {
		x = 0 - x
	}
	return x
}

// twist changes one field, often so that c is no content any more.
func (d drawer) twist(c api.Content) api.Content {
	floats := []float64{1, 90, -90, 90.5, -180, 180, 180.5, math.NaN(), math.Inf(1), math.Inf(-1), math.Copysign(0, -1), math.SmallestNonzeroFloat64, math.MaxFloat64}
	numbers := []uint64{0, 1, 2, 3, 31536000, 31536001, 1<<32 - 1, 1 << 32, 1 << 40, 1<<40 + 1, math.MaxUint64}
	sizes := []int{0, 1, 64, 65, 200, 201, 255, 256, 2000, 2001}
	switch d.Intn(8) {
	case 0:
		c.Kind = d.Intn(9) - 1
	case 1:
		c.Text = d.text(sizes[d.Intn(len(sizes))])
	case 2:
		at := d.Intn(len(c.Text) + 1)
		c.Text = c.Text[:at] + string([]byte{byte(128 + d.Intn(128))}) + c.Text[at:]
	case 3:
		c.Marks = d.marks([]int{0, 1, 2, 99, 100, 101}[d.Intn(6)])
		if len(c.Marks) > 1 && d.Intn(2) == 0 {
			i, k := d.Intn(len(c.Marks)), d.Intn(len(c.Marks))
			c.Marks[i] = c.Marks[k]
		}
	case 4:
		c.Lat = floats[d.Intn(len(floats))]
	case 5:
		c.Long = floats[d.Intn(len(floats))]
	case 6:
		c.Number = numbers[d.Intn(len(numbers))]
	case 7:
		c.Key = api.Key{31: byte(d.Intn(2))}
	}
	return c
}

func un(s string) []byte {
	b, err := hex.DecodeString(strings.ReplaceAll(s, " ", ""))
	if err != nil {
		panic(err)
	}
	return b
}
