package schema

import (
	"math"
	"unicode/utf8"

	"pawl/api"
	"pawl/wire"
)

// slots are those of a schema, made ready.
type slots []slot

// slot is one of them: what is done with its values, by its kind and its bounds. What finds a fault gives up with it.
type slot struct {
	no, wireType int
	check        func(v api.Value, deep int)         // deep: how deep the message lies that v is a part of
	write        func(v api.Value) api.Field         // of a value that was checked
	read         func(f api.Field, at int) api.Value // of a field of this number and wire type that begins at that place
}

func compile(m message) slots {
	var out slots
	for _, p := range m {
		out = append(out, ready(p))
	}
	return out
}

// ready makes the closures of a slot.
func ready(p place) slot {
	switch s := p.shape.(type) {
	case numbers:
		return plain(p.no, s.wireType, func(v api.Value) api.Errno { return within(v.Num, s.least, s.most) })
	case floats:
		return plain(p.no, api.WireFixed64, func(v api.Value) api.Errno { return s.fits(v.Num) })
	case octets:
		return plain(p.no, api.WireBytes, func(v api.Value) api.Errno { return s.fits(v.Data) })
	case message:
		return inner(p.no, compile(s))
	case lists:
		return listed(p.no, s, compile(s.item))
	}
	return slot{}
}

// plain is a slot whose values are numbers or bytes; fits tells what is wrong with one that has nothing that its kind does not have.
func plain(no, wireType int, fits func(v api.Value) api.Errno) slot {
	isBytes := wireType == api.WireBytes
	return slot{no, wireType,
		func(v api.Value, deep int) {
			if len(v.Parts) > 0 || isBytes && v.Num != 0 || !isBytes && len(v.Data) > 0 {
				giveUp(deep, no, api.ErrForm)
			}
			if e := fits(v); e != api.OK {
				giveUp(deep, no, e)
			}
		},
		func(v api.Value) api.Field {
			return api.Field{No: no, Type: wireType, Num: v.Num, Data: v.Data}
		},
		func(f api.Field, at int) api.Value {
			v := api.Value{Num: f.Num, Data: f.Data}
			if e := fits(v); e != api.OK {
				giveUp(0, at, e)
			}
			return v
		},
	}
}

// inner is a slot whose values are messages.
func inner(no int, sub slots) slot {
	return slot{no, api.WireBytes,
		func(v api.Value, deep int) { sub.check(v, deep+1) },
		func(v api.Value) api.Field {
			return api.Field{No: no, Type: api.WireBytes, Data: sub.encode(v)}
		},
		func(f api.Field, at int) api.Value { return sub.decode(f.Data, dataOf(f, at)) },
	}
}

// listed is a slot whose values are lists of messages.
func listed(no int, l lists, sub slots) slot {
	return slot{no, api.WireBytes,
		func(v api.Value, deep int) {
			if v.Num != 0 || len(v.Data) > 0 {
				giveUp(deep, no, api.ErrForm)
			}
			if e := l.fits(len(v.Parts)); e != api.OK {
				giveUp(deep, no, e)
			}
			for _, item := range v.Parts {
				sub.check(item, deep+1)
			}
		},
		func(v api.Value) api.Field {
			return api.Field{No: no, Type: api.WireBytes, Data: sub.join(v.Parts)}
		},
		func(f api.Field, at int) api.Value {
			from := dataOf(f, at)
			items, place, e := wire.Split(f.Data)
			if e != api.OK {
				giveUp(0, from+place, e)
			}
			if e := l.fits(len(items)); e != api.OK {
				giveUp(0, at, e)
			}
			return sub.decodeAll(items, from)
		},
	}
}

func within(n, least, most uint64) api.Errno {
	if n < least || n > most {
		return api.ErrRange
	}
	return api.OK
}

// fits tells what is wrong with a float of these bits.
func (f floats) fits(bits uint64) api.Errno {
	x := math.Float64frombits(bits)
	switch {
	case math.IsNaN(x), math.IsInf(x, 0), x == 0 && math.Signbit(x):
		return api.ErrForm
	case math.Abs(x) > f.most:
		return api.ErrRange
	}
	return api.OK
}

func (o octets) fits(b []byte) api.Errno {
	if e := within(uint64(len(b)), o.least, o.most); e != api.OK {
		return e
	}
	if o.text && !utf8.Valid(b) {
		return api.ErrForm
	}
	return api.OK
}

func (l lists) fits(items int) api.Errno { return within(uint64(items), l.least, l.most) }
