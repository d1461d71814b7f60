package journal

import (
	"math"
	"slices"

	"pawl/api"
	"pawl/hash"
	"pawl/schema"
	"pawl/wire"
)

// The numbers of the fields of a record's body, and of those of a change in it.
const (
	numberNo  = 1
	goesOnNo  = 2
	changesNo = 3

	nameNo   = 1
	deleteNo = 2
	dataNo   = 3
)

// linkSize is how many bytes of its link stand behind a record's body.
const linkSize = 16

// room is how many bytes of records there may be behind the head.
const room = api.MaxJournal - len(head)

// mark is where a journal's last record stands: its number and its link. The zero one is that of a head without records.
type mark struct {
	number uint64
	sum    api.Key
}

func (m mark) link() api.Key {
	if m.number == 0 {
		return hash.Sum([]byte(head))
	}
	return m.sum
}

// behind is the mark of a record with this body that comes next.
func (m mark) behind(body []byte) mark {
	ahead := m.link()
	h := hash.New()
	h.Write(ahead[:])
	h.Write(body)
	return mark{number: m.number + 1, sum: h.Sum()}
}

// record is what a record's body tells.
type record struct {
	number  uint64
	goesOn  bool // the batch goes on in the next one
	changes []api.Change
}

// write makes the records of a batch that comes behind a mark, and tells the mark of the last of them: ErrFull, if they have more than most bytes.
func write(l []api.Change, m mark, most int) ([]byte, mark, api.Errno) {
	var out []byte
	c, left := codec(), len(l)
	for part := range slices.Chunk(l, api.MaxChanges) {
		left -= len(part)
		body := encode(c, record{number: m.number + 1, goesOn: left > 0, changes: part})
		size := wire.Put(nil, uint64(len(body)))
		if len(out)+len(size)+len(body)+linkSize > most {
			return nil, mark{}, api.ErrFull
		}
		m = m.behind(body)
		out = append(out, size...)
		out = append(out, body...)
		out = append(out, m.sum[:linkSize]...)
	}
	return out, m, api.OK
}

// encode is the body that tells a record.
func encode(c *schema.Codec, r record) []byte {
	var items []api.Value
	for _, x := range r.changes {
		items = append(items, message(api.Value{Data: []byte(x.Name)}, flag(x.Delete), api.Value{Data: x.Data}))
	}
	b, _ := c.Encode(message(api.Value{Num: r.number}, flag(r.goesOn), message(items...))) // nil: its changes can be, and there are neither none nor too many
	return b
}

// decode is the record that a body tells; an error, if it is no message of the schema.
func decode(c *schema.Codec, body []byte) (record, error) {
	v, err := c.Decode(body)
	if err != nil {
		return record{}, err
	}
	r := record{number: v.Parts[0].Num, goesOn: v.Parts[1].Num == 1}
	for _, x := range v.Parts[2].Parts {
		r.changes = append(r.changes, api.Change{Name: string(x.Parts[0].Data), Delete: x.Parts[1].Num == 1, Data: x.Parts[2].Data})
	}
	return r, nil
}

func message(parts ...api.Value) api.Value { return api.Value{Parts: parts} }

func flag(is bool) api.Value {
	if is {
		return api.Value{Num: 1}
	}
	return api.Value{}
}

// codec makes the schema of bodies ready.
func codec() *schema.Codec {
	c, _ := schema.Compile([]api.Slot{ // OK: it can be
		{No: numberNo, Kind: api.KFixed32, Most: math.MaxUint32},
		{No: goesOnNo, Kind: api.KFlag},
		{No: changesNo, Kind: api.KList, Least: 1, Most: api.MaxChanges, Sub: []api.Slot{
			{No: nameNo, Kind: api.KBytes, Least: 1, Most: api.MaxEntry},
			{No: deleteNo, Kind: api.KFlag},
			{No: dataNo, Kind: api.KBytes, Most: api.MaxData},
		}},
	})
	return c
}
