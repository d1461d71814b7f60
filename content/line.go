package content

import (
	"strings"

	"pawl/api"
	"pawl/schema"
)

// opening is a word that lines begin with, the kind of their contents, and the number that the word stands for, if it does.
type opening struct {
	word   string
	kind   kind
	number uint64
}

var openings = [...]opening{
	{"text", aText, 0},
	{"came", aReceipt, 1},
	{"read", aReceipt, 2},
	{"place", aPlace, 0},
	{"react", aReact, 0},
	{"timer", aTimer, 0},
	{"file", aFile, 0},
}

// Print makes a content's line; Parse reads it (with an error its place).
func Print(c api.Content) (string, api.Errno) {
	if e := Check(c); e != api.OK {
		return "", e
	}
	things := []string{wordOf(c)}
	for _, p := range thingsOf(kind(c.Kind)) {
		things = append(things, p.forms(c)...)
	}
	return strings.Join(things, " "), api.OK
}

func Parse(s string) (api.Content, int, api.Errno) {
	r := reader{line: s}
	c, ok := r.content()
	if !ok {
		return api.Content{}, r.at, api.ErrContent
	}
	return c, 0, api.OK
}

// wordOf is the word with which the line of a content begins.
func wordOf(c api.Content) string {
	for _, o := range openings {
		if o.kind == kind(c.Kind) && (o.number == 0 || o.number == c.Number) {
			return o.word
		}
	}
	return ""
}

// thingsOf is the parts of a kind that stand behind the word of its line.
func thingsOf(k kind) []part {
	if k == aReceipt { // its word tells its number
		return partsOf(k)[2:]
	}
	return partsOf(k)[1:]
}

// forms is what stands for a part in the line of a content: one thing, or one for each mark.
func (p part) forms(c api.Content) []string {
	v := p.field.of(c)
	if p.field != theMarks {
		return []string{form(p.slot.Kind, v)}
	}
	var out []string
	for _, mark := range v.Parts {
		out = append(out, form(api.KNum, mark.Parts[0]))
	}
	return out
}

// reader goes through a line. It stands at the end of what was read, or, having met something wrong, at its place.
type reader struct {
	line string
	at   int
}

// content reads a whole line.
func (r *reader) content() (api.Content, bool) {
	o, ok := r.opening()
	if !ok {
		return api.Content{}, false
	}
	c := api.Content{Kind: int(o.kind), Number: o.number}
	for _, p := range thingsOf(o.kind) {
		v, ok := r.part(p)
		if !ok {
			return api.Content{}, false
		}
		p.field.put(&c, v)
	}
	return c, r.at == len(r.line)
}

// opening reads the word with which a line begins.
func (r *reader) opening() (opening, bool) {
	word := upToBlank(r.line)
	for _, o := range openings {
		if o.word == word {
			r.at = len(word)
			return o, true
		}
	}
	return opening{}, false
}

// part reads what stands for a part.
func (r *reader) part(p part) (api.Value, bool) {
	if p.field == theMarks {
		return r.marks(p.slot.Sub[0], int(p.slot.Most))
	}
	return r.thing(p.slot)
}

// marks reads all marks up to the line's end, at least one and at most so many.
func (r *reader) marks(mark api.Slot, most int) (api.Value, bool) {
	var all api.Value
	for len(all.Parts) == 0 || r.at < len(r.line) {
		begin := r.at + 1
		v, ok := r.thing(mark)
		if ok && len(all.Parts) == most {
			r.at, ok = begin, false
		}
		if !ok {
			return api.Value{}, false
		}
		all.Parts = append(all.Parts, item(v.Num))
		mark.Least = v.Num + 1 // the next one must be above
	}
	return all, true
}

// thing reads a blank and the thing behind it, a value of the slot.
func (r *reader) thing(s api.Slot) (api.Value, bool) {
	if r.at == len(r.line) || r.line[r.at] != ' ' {
		return api.Value{}, false
	}
	r.at++
	thing := upToBlank(r.line[r.at:])
	if s.Kind == api.KText {
		thing = upToQuote(r.line[r.at:])
	}
	v := unform(s.Kind, thing)
	// A thing has one form, that of its value: whatever else unform makes something of is found here.
	if form(s.Kind, v) != thing || !fits(s, v) {
		return api.Value{}, false
	}
	r.at += len(thing)
	return v, true
}

// fits tells whether v is a value of the slot. (Above the greatest mark no further one can be, nor a slot for it.)
func fits(s api.Slot, v api.Value) bool {
	c, e := schema.Compile([]api.Slot{s})
	return e == api.OK && c.Check(api.Value{Parts: []api.Value{v}}) == nil
}
