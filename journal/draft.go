package journal

import (
	"bytes"

	"pawl/api"
)

// The bytes of a name: all that can be seen, and no space.
const (
	leastOfName = 33
	mostOfName  = 126
)

// draft is what changes would make of a store's entries, which stay as they are till it is settled.
type draft struct {
	store   *Store
	changed map[string]entry
}

// entry is what a name will stand for; not there: it was taken away.
type entry struct {
	there bool
	data  []byte
}

func (s *Store) draft() *draft {
	return &draft{store: s, changed: map[string]entry{}}
}

// change makes one more change in the draft, or tells why it can't be.
func (d *draft) change(c api.Change) api.Errno {
	switch {
	case !isName(c.Name):
		return api.ErrEntry
	case len(c.Data) > api.MaxData:
		return api.ErrLong
	case c.Delete && len(c.Data) > 0:
		return api.ErrArg
	case c.Delete && !d.has(c.Name):
		return api.ErrEntry
	}
	d.changed[c.Name] = entry{there: !c.Delete, data: c.Data}
	return api.OK
}

func (d *draft) has(name string) bool {
	if e, is := d.changed[name]; is {
		return e.there
	}
	_, is := d.store.entries[name]
	return is
}

// settle makes the draft's changes in the store. Only here are the data copied: till then the draft may share them with whoever handed them in.
func (d *draft) settle() {
	if d.store.entries == nil {
		d.store.entries = map[string][]byte{}
	}
	for name, e := range d.changed {
		if e.there {
			d.store.entries[name] = bytes.Clone(e.data)
		} else {
			delete(d.store.entries, name)
		}
	}
}

// isName tells whether a text is a name for an entry.
func isName(text string) bool {
	for i := range len(text) {
		if text[i] < leastOfName || text[i] > mostOfName {
			return false
		}
	}
	return len(text) > 0 && len(text) <= api.MaxEntry
}
