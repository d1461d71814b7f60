package schema_test

import (
	"bytes"
	"encoding/binary"
	"encoding/hex"
	"errors"
	"math"
	"math/big"
	"math/rand"
	"slices"
	"testing"

	"pawl/api"
	"pawl/schema"
	"pawl/wire"
)

// What the chapter says, done as it is said, by layer 7's calls, by great numbers and by Go's own library; and what several tests draw and hold against each other.

// The limits, as the document has them.
const (
	mostNo    = 1<<29 - 1
	mostBytes = 1 << 22
	mostItems = 4096
	mostSlots = 16
	mostDeep  = 6
	mostAll   = 256
)

// canBe asks all that the chapter's list of a schema's conditions says, of it and of those within it.
func canBe(s []api.Slot) bool {
	return eachCanBe(s) && deepByWords(s) <= mostDeep && allSlots(s) <= mostAll
}

func eachCanBe(s []api.Slot) bool {
	if len(s) > mostSlots {
		return false
	}
	for i, slot := range s {
		if slot.No < 1 || slot.No > mostNo || i > 0 && slot.No <= s[i-1].No {
			return false
		}
		if !boundsCanBe(slot) || !eachCanBe(slot.Sub) {
			return false
		}
	}
	return true
}

// boundsCanBe is the chapter's table, row by row.
func boundsCanBe(s api.Slot) bool {
	none, ordered := len(s.Sub) == 0, s.Least <= s.Most
	switch s.Kind {
	case api.KNum, api.KFixed64:
		return none && ordered
	case api.KFixed32:
		return none && ordered && s.Most <= math.MaxUint32
	case api.KFlag:
		return none && s.Least == 0 && s.Most == 0
	case api.KBytes, api.KText:
		return none && ordered && s.Most <= mostBytes
	case api.KFloat:
		return none && s.Least == 0 && s.Most <= 9007199254740992
	case api.KSub:
		return s.Least == 0 && s.Most == 0
	case api.KList:
		return ordered && s.Most <= mostItems
	}
	return false
}

func hasSub(s api.Slot) bool { return s.Kind == api.KSub || s.Kind == api.KList }

func deepByWords(s []api.Slot) int {
	most := 0
	for _, slot := range s {
		if hasSub(slot) {
			most = max(most, deepByWords(slot.Sub))
		}
	}
	return 1 + most
}

func allSlots(s []api.Slot) int {
	n := len(s)
	for _, slot := range s {
		n += allSlots(slot.Sub)
	}
	return n
}

// rangeByWords is how many bytes the shortest and the longest message have, however many, of a schema that can be.
func rangeByWords(s []api.Slot) (*big.Int, *big.Int) {
	least, most := new(big.Int), new(big.Int)
	for _, slot := range s {
		head := uint64(slot.No)*8 + uint64(typeByWords(slot.Kind))
		a, b := valueRange(slot)
		least.Add(least, a.Add(a, digits(head)))
		most.Add(most, b.Add(b, digits(head)))
	}
	return least, most
}

func valueRange(s api.Slot) (*big.Int, *big.Int) {
	switch s.Kind {
	case api.KNum:
		return digits(s.Least), digits(s.Most)
	case api.KFlag:
		return digits(0), digits(1)
	case api.KFixed32:
		return big.NewInt(4), big.NewInt(4)
	case api.KFixed64, api.KFloat:
		return big.NewInt(8), big.NewInt(8)
	case api.KBytes, api.KText:
		return counted(new(big.Int).SetUint64(s.Least)), counted(new(big.Int).SetUint64(s.Most))
	}
	least, most := rangeByWords(s.Sub)
	if s.Kind == api.KList {
		least.Mul(counted(least), new(big.Int).SetUint64(s.Least))
		most.Mul(counted(most), new(big.Int).SetUint64(s.Most))
	}
	return counted(least), counted(most)
}

// digits is how many digits of base 128 a number has.
func digits(n uint64) *big.Int {
	return big.NewInt(int64(len(binary.AppendUvarint(nil, n))))
}

// counted is n and the number of digits of n, a great one.
func counted(n *big.Int) *big.Int {
	out := big.NewInt(1)
	for rest := new(big.Int).Rsh(n, 7); rest.Sign() > 0; rest.Rsh(rest, 7) {
		out.Add(out, big.NewInt(1))
	}
	return out.Add(out, n)
}

func validByWords(s []api.Slot) api.Errno {
	if !canBe(s) {
		return api.ErrSchema
	}
	if _, most := rangeByWords(s); most.Cmp(big.NewInt(mostBytes)) > 0 {
		return api.ErrLong
	}
	return api.OK
}

func typeByWords(kind int) int {
	switch kind {
	case api.KFixed32:
		return 5
	case api.KFixed64, api.KFloat:
		return 1
	case api.KNum, api.KFlag:
		return 0
	}
	return 2
}

// messageByWords is the first that is wrong with a message that lies so deep, or nil.
func messageByWords(s []api.Slot, v api.Value, deep int) *api.Fault {
	if v.Num != 0 || len(v.Data) != 0 {
		return &api.Fault{Line: deep, Why: api.ErrForm}
	}
	if len(v.Parts) != len(s) {
		return &api.Fault{Line: deep, Why: api.ErrSlots}
	}
	for i, slot := range s {
		if f := partByWords(slot, v.Parts[i], deep); f != nil {
			return f
		}
	}
	return nil
}

func partByWords(s api.Slot, v api.Value, deep int) *api.Fault {
	if s.Kind == api.KSub {
		return messageByWords(s.Sub, v, deep+1)
	}
	hasNum, hasData, hasParts := v.Num != 0, len(v.Data) > 0, len(v.Parts) > 0
	odd := false
	switch s.Kind {
	case api.KBytes, api.KText:
		odd = hasNum || hasParts
	case api.KList:
		odd = hasNum || hasData
	default:
		odd = hasData || hasParts
	}
	if odd {
		return &api.Fault{Line: deep, At: s.No, Why: api.ErrForm}
	}
	if why := valueByWords(s, v); why != api.OK {
		return &api.Fault{Line: deep, At: s.No, Why: why}
	}
	if s.Kind == api.KList {
		for _, item := range v.Parts {
			if f := messageByWords(s.Sub, item, deep+1); f != nil {
				return f
			}
		}
	}
	return nil
}

// valueByWords is P8.4's 3, and 4 of a text.
func valueByWords(s api.Slot, v api.Value) api.Errno {
	n, least, most := v.Num, s.Least, s.Most
	switch s.Kind {
	case api.KFlag:
		least, most = 0, 1
	case api.KBytes, api.KText:
		n = uint64(len(v.Data))
	case api.KList:
		n = uint64(len(v.Parts))
	case api.KFloat:
		return floatByWords(n, most)
	}
	if n < least || n > most {
		return api.ErrRange
	}
	if s.Kind == api.KText && !isText(v.Data) {
		return api.ErrForm
	}
	return api.OK
}

// floatByWords looks at the bits: 1 of sign, 11 of exponent, 52 of fraction.
func floatByWords(n, most uint64) api.Errno {
	if n>>52%(1<<11) == 1<<11-1 || n == 1<<63 {
		return api.ErrForm
	}
	x := new(big.Float).SetFloat64(math.Float64frombits(n))
	if x.Abs(x).Cmp(new(big.Float).SetUint64(most)) > 0 {
		return api.ErrRange
	}
	return api.OK
}

// isText reads UTF-8 by its table: how many bytes there are, by the first; what they come to; and whether fewer would have done.
func isText(b []byte) bool {
	for len(b) > 0 {
		count, from, x := 1, rune(0), rune(b[0])
		switch {
		case b[0] < 0x80:
		case b[0]>>5 == 6:
			count, from, x = 2, 0x80, rune(b[0]&0x1f)
		case b[0]>>4 == 14:
			count, from, x = 3, 0x800, rune(b[0]&0xf)
		case b[0]>>3 == 30:
			count, from, x = 4, 0x10000, rune(b[0]&7)
		default:
			return false
		}
		if len(b) < count {
			return false
		}
		for _, c := range b[1:count] {
			if c>>6 != 2 {
				return false
			}
			x = x<<6 | rune(c&0x3f)
		}
		if x < from || x > 0x10ffff || x >= 0xd800 && x <= 0xdfff {
			return false
		}
		b = b[count:]
	}
	return true
}

// bytesByWords is the bytes of a message.
func bytesByWords(s []api.Slot, v api.Value) []byte {
	var out []byte
	for i, slot := range s {
		p := v.Parts[i]
		out = binary.AppendUvarint(out, uint64(slot.No)*8+uint64(typeByWords(slot.Kind)))
		data := p.Data
		switch slot.Kind {
		case api.KNum, api.KFlag:
			out = binary.AppendUvarint(out, p.Num)
			continue
		case api.KFixed32:
			out = binary.LittleEndian.AppendUint32(out, uint32(p.Num))
			continue
		case api.KFixed64, api.KFloat:
			out = binary.LittleEndian.AppendUint64(out, p.Num)
			continue
		case api.KSub:
			data = bytesByWords(slot.Sub, p)
		case api.KList:
			for _, item := range p.Parts {
				b := bytesByWords(slot.Sub, item)
				data = append(binary.AppendUvarint(data, uint64(len(b))), b...)
			}
		}
		out = append(binary.AppendUvarint(out, uint64(len(data))), data...)
	}
	return out
}

// readByWords reads all[from:to] as a message, or tells the first that is wrong.
func readByWords(s []api.Slot, all []byte, from, to int) (api.Value, *api.Fault) {
	wrong := func(at int, why api.Errno) (api.Value, *api.Fault) {
		return api.Value{}, &api.Fault{At: at, Why: why}
	}
	b := all[from:to]
	if _, at, e := wire.Decode(b); e != api.OK {
		return wrong(from+at, e)
	}
	var fields []api.Field
	var places []int
	for at, f := range wire.Fields(b) {
		fields, places = append(fields, f), append(places, from+at)
	}
	places = append(places, to)
	var v api.Value
	for i, slot := range s {
		switch {
		case i >= len(fields):
			return wrong(to, api.ErrSlots)
		case fields[i].No != slot.No:
			return wrong(places[i], api.ErrSlots)
		case fields[i].Type != typeByWords(slot.Kind):
			return wrong(places[i], api.ErrKind)
		}
		p, f := readPart(slot, fields[i], all, places[i], places[i+1])
		if f != nil {
			return api.Value{}, f
		}
		v.Parts = append(v.Parts, p)
	}
	if len(fields) > len(s) {
		return wrong(places[len(s)], api.ErrSlots)
	}
	return v, nil
}

// readPart reads the value of a field that stands from at to end; its Data stands at its end.
func readPart(s api.Slot, f api.Field, all []byte, at, end int) (api.Value, *api.Fault) {
	from := end - len(f.Data)
	if s.Kind == api.KSub {
		return readByWords(s.Sub, all, from, end)
	}
	v := api.Value{Num: f.Num, Data: f.Data}
	if s.Kind == api.KList {
		items, place, e := wire.Split(f.Data)
		if e != api.OK {
			return api.Value{}, &api.Fault{At: from + place, Why: e}
		}
		v = api.Value{Parts: make([]api.Value, len(items))}
		if why := valueByWords(s, v); why != api.OK {
			return api.Value{}, &api.Fault{At: at, Why: why}
		}
		for i, item := range items {
			from += len(binary.AppendUvarint(nil, uint64(len(item))))
			p, f := readByWords(s.Sub, all, from, from+len(item))
			if f != nil {
				return api.Value{}, f
			}
			v.Parts[i] = p
			from += len(item)
		}
		return v, nil
	}
	if why := valueByWords(s, v); why != api.OK {
		return api.Value{}, &api.Fault{At: at, Why: why}
	}
	return v, nil
}

// same takes nil and empty lists as alike.
func same(a, b api.Value) bool {
	return a.Num == b.Num && bytes.Equal(a.Data, b.Data) && slices.EqualFunc(a.Parts, b.Parts, same)
}

func zero(v api.Value) bool { return v.Num == 0 && v.Data == nil && v.Parts == nil }

// checkFault holds an error against a fault, nil against nil, in each of the ways in which it can be asked (P8.9).
func checkFault(t *testing.T, what string, err error, want *api.Fault) {
	t.Helper()
	if want == nil {
		if err != nil {
			t.Errorf("%s: %v, not nil", what, err)
		}
		return
	}
	var f *api.Fault
	if !errors.As(err, &f) || f == nil || *f != *want {
		t.Errorf("%s: %v, not %v", what, err, want)
		return
	}
	if _, ok := err.(*api.Fault); !ok || !errors.Is(err, want.Why) {
		t.Errorf("%s: %v is not an *api.Fault with its Why", what, err)
	}
}

func compiled(t *testing.T, s []api.Slot) *schema.Codec {
	t.Helper()
	c, e := schema.Compile(s)
	if c == nil || e != api.OK {
		t.Fatalf("Compile(%v): %v", s, e)
	}
	return c
}

// checkValue holds Check and Encode of v against the words.
func checkValue(t *testing.T, c *schema.Codec, s []api.Slot, v api.Value) {
	t.Helper()
	want := messageByWords(s, v, 1)
	checkFault(t, "Check", c.Check(v), want)
	b, err := c.Encode(v)
	checkFault(t, "Encode", err, want)
	if want != nil && b != nil {
		t.Errorf("Encode of a fault %v: %x", want, b)
	}
	if want == nil && !bytes.Equal(b, bytesByWords(s, v)) {
		t.Errorf("Encode: %.60x, not %.60x", b, bytesByWords(s, v))
	}
	if t.Failed() {
		t.Fatalf("of the schema %v and the value %v", s, v)
	}
}

// checkDecode holds Decode of b against the words, and answers whether b was taken.
func checkDecode(t *testing.T, c *schema.Codec, s []api.Slot, b []byte) bool {
	t.Helper()
	want, fault := readByWords(s, b, 0, len(b))
	v, err := c.Decode(b)
	checkFault(t, "Decode", err, fault)
	if fault != nil && (!zero(v) || fault.At < 0 || fault.At > len(b)) {
		t.Errorf("Decode: %v beside %v", v, fault)
	}
	if fault == nil && !same(v, want) {
		t.Errorf("Decode: %v, not %v", v, want)
	}
	if t.Failed() {
		t.Fatalf("of the schema %v and the bytes %.100x", s, b)
	}
	return fault == nil
}

// drawer draws schemas and what belongs to them.
type drawer struct {
	*rand.Rand
	left int // slots that the schema under way may still have
}

func newDrawer(seed int64) *drawer { return &drawer{Rand: rand.New(rand.NewSource(seed))} }

// schema is one that can be, with messages that are not too long.
func (d *drawer) schema() []api.Slot {
	for {
		d.left = 40
		s := d.level(1)
		if validByWords(s) == api.OK {
			return s
		}
	}
}

func (d *drawer) level(deep int) []api.Slot {
	count := min(d.Intn(7), d.left)
	d.left -= count
	var s []api.Slot
	no := 0
	for range count {
		no += 1 + d.Intn(1+1<<d.Intn(25))
		s = append(s, d.slot(no, deep))
	}
	return s
}

func (d *drawer) slot(no, deep int) api.Slot {
	s := api.Slot{No: no, Kind: 1 + d.Intn(9)}
	if hasSub(s) && deep == mostDeep {
		s.Kind = api.KFlag
	}
	s.Least, s.Most = d.bounds(s.Kind)
	if hasSub(s) {
		s.Sub = d.level(deep + 1)
	}
	return s
}

// bounds are such as the table allows.
func (d *drawer) bounds(kind int) (uint64, uint64) {
	a, b := d.Uint64()>>d.Intn(64), d.Uint64()>>d.Intn(64)
	switch kind {
	case api.KFixed32:
		a, b = a%(1<<32), b%(1<<32)
	case api.KFlag, api.KSub:
		return 0, 0
	case api.KBytes, api.KText:
		a, b = uint64(d.Intn(6)), uint64(d.Intn(1+d.Intn(200)))
	case api.KFloat:
		return 0, d.Uint64() >> (11 + d.Intn(53))
	case api.KList:
		a, b = uint64(d.Intn(3)), uint64(d.Intn(5))
	}
	return min(a, b), max(a, b)
}

// message is one of the schema.
func (d *drawer) message(s []api.Slot) api.Value {
	var v api.Value
	for _, slot := range s {
		v.Parts = append(v.Parts, d.value(slot))
	}
	return v
}

func (d *drawer) value(s api.Slot) api.Value {
	switch s.Kind {
	case api.KFlag:
		return api.Value{Num: uint64(d.Intn(2))}
	case api.KBytes:
		return api.Value{Data: d.bytes(int(d.between(s.Least, s.Most)))}
	case api.KText:
		return api.Value{Data: d.text(int(d.between(s.Least, s.Most)))}
	case api.KFloat:
		return api.Value{Num: d.float(float64(s.Most))}
	case api.KSub:
		return d.message(s.Sub)
	case api.KList:
		var v api.Value
		for range d.between(s.Least, s.Most) {
			v.Parts = append(v.Parts, d.message(s.Sub))
		}
		return v
	}
	return api.Value{Num: d.between(s.Least, s.Most)}
}

// between is often one of the bounds.
func (d *drawer) between(least, most uint64) uint64 {
	switch d.Intn(4) {
	case 0:
		return least
	case 1:
		return most
	}
	if most-least == math.MaxUint64 {
		return d.Uint64()
	}
	return least + d.Uint64()%(most-least+1)
}

func (d *drawer) bytes(n int) []byte {
	out := make([]byte, n)
	d.Read(out)
	return out
}

// text is n bytes of characters of all lengths.
func (d *drawer) text(n int) []byte {
	var out []byte
	for len(out) < n {
		x := rune(d.Intn(0x110000) >> d.Intn(21))
		if c := []byte(string(x)); len(out)+len(c) <= n {
			out = append(out, c...)
		}
	}
	return out
}

// float is the bits of one from -most to most that is not -0.
func (d *drawer) float(most float64) uint64 {
	x := d.Float64() * most
	switch d.Intn(5) {
	case 0:
		x = most
	case 1:
		x = 0
	}
	if d.Intn(2) == 0 {
		x = 0 - x
	}
	return math.Float64bits(x)
}

func num(n uint64) api.Value         { return api.Value{Num: n} }
func data(b string) api.Value        { return api.Value{Data: []byte(b)} }
func parts(p ...api.Value) api.Value { return api.Value{Parts: p} }
func float(x float64) api.Value      { return num(math.Float64bits(x)) }
func slot(kind int, b ...uint64) api.Slot {
	return api.Slot{No: 1, Kind: kind, Least: b[0], Most: b[1]}
}

func sub(s ...api.Slot) api.Slot { return api.Slot{No: 1, Kind: api.KSub, Sub: s} }

func list(least, most uint64, s ...api.Slot) api.Slot {
	return api.Slot{No: 1, Kind: api.KList, Least: least, Most: most, Sub: s}
}

// row numbers slots from 1 on.
func row(s ...api.Slot) []api.Slot {
	for i := range s {
		s[i].No = i + 1
	}
	return s
}

// example is the schema S of the chapter's examples.
func example() []api.Slot {
	return []api.Slot{
		{No: 1, Kind: api.KNum, Least: 1, Most: 300},
		{No: 2, Kind: api.KText, Most: 10},
		{No: 5, Kind: api.KList, Most: 2, Sub: []api.Slot{{No: 1, Kind: api.KFlag}}},
	}
}

func un(s string) []byte {
	b, err := hex.DecodeString(s)
	if err != nil {
		panic(err)
	}
	return b
}
