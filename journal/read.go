package journal

import (
	"bytes"

	"pawl/api"
	"pawl/hash"
	"pawl/schema"
	"pawl/wire"
)

// The first byte of a record of the elder format, and how many bytes of its hash stand at its end.
const (
	elderPut    = 1
	elderDelete = 2

	elderSum = 4
)

// torn is what reading gives up with where a record does not stand whole.
type torn struct{}

func giveUp() { panic(torn{}) }

// reader goes through the records of a journal. Its store has what the batches made that were read to their ends; they count.
type reader struct {
	b      []byte
	at     int // how far they are read
	store  *Store
	draft  *draft // of the batch that is being read
	last   mark   // of the records that are read
	codec  *schema.Codec
	counts int
}

func newReader(b []byte, from int) *reader {
	s := New()
	return &reader{b: b, at: from, store: s, draft: s.draft(), codec: codec(), counts: from}
}

// open reads a journal that has the head of this chapter.
func open(b []byte) (*Store, int) {
	r := newReader(b, len(head))
	r.through(r.record)
	r.store.records = bytes.Clone(b[len(head):r.counts])
	return r.store, r.counts
}

// openElder reads one that has the elder head: what is left of it are the entries.
func openElder(b []byte) (*Store, int, api.Errno) {
	r := newReader(b, len(elderHead))
	r.through(r.elderRecord)
	if e := r.store.Compact(); e != api.OK {
		return nil, 0, e
	}
	return r.store, r.counts, api.OK
}

// through reads records as long as they stand whole. What reads one tells whether its batch ends with it.
func (r *reader) through(record func() bool) {
	defer func() {
		switch found := recover().(type) {
		case nil, torn:
		default: // not giveUp's: it is nobody's to hide
			panic(found)
		}
	}()
records:
	for {
		switch {
		case r.at == len(r.b):
			break records
		case record():
			r.settle()
		}
	}
}

// settle lets all count that was read.
func (r *reader) settle() {
	r.draft.settle()
	r.draft = r.store.draft()
	r.counts = r.at
	r.store.last = r.last
}

// record reads a record, or gives up.
func (r *reader) record() bool {
	body := r.sized()
	link := r.take(linkSize)
	told, err := decode(r.codec, body)
	if err != nil || told.number != r.last.number+1 {
		giveUp()
	}
	r.last = r.last.behind(body)
	if !bytes.Equal(link, r.last.sum[:linkSize]) {
		giveUp()
	}
	for _, c := range told.changes {
		r.change(c)
	}
	return !told.goesOn
}

// elderRecord reads a record of the elder format, or gives up. Each is a batch.
func (r *reader) elderRecord() bool {
	from := r.at
	var c api.Change
	switch r.take(1)[0] {
	case elderPut:
		c.Name = string(r.sized())
		c.Data = r.sized()
	case elderDelete:
		c.Name = string(r.sized())
		c.Delete = true
	default:
		giveUp()
	}
	sum := hash.Sum(r.b[from:r.at])
	if !bytes.Equal(r.take(elderSum), sum[:elderSum]) {
		giveUp()
	}
	r.change(c)
	return true
}

// change makes a change in the draft, or gives up.
func (r *reader) change(c api.Change) {
	if r.draft.change(c) != api.OK {
		giveUp()
	}
}

// sized takes a number, and so many bytes; take takes n bytes; both give up, if they are not there.
func (r *reader) sized() []byte {
	n, at, e := wire.Number(r.b, r.at)
	if e != api.OK {
		giveUp()
	}
	r.at = at
	return r.take(n)
}

func (r *reader) take(n uint64) []byte {
	if n > uint64(len(r.b)-r.at) {
		giveUp()
	}
	from := r.at
	r.at += int(n)
	return r.b[from:r.at]
}
