package journal_test

import (
	"bytes"
	"crypto/sha256"
	"encoding/binary"
	"maps"
	"slices"
	"testing"

	"pawl/api"
	"pawl/journal"
)

// The chapter's words done a second way: bytes are put together by hand, what is read is written anew and held against what stood there, and nothing of the program is called.

const (
	mostName    = 64
	mostData    = 262144
	mostChanges = 15
	mostBatch   = 4096
	mostJournal = 67108864
	headText    = "PAWLJRN2"
	elderText   = "PAWLJRN1"
)

// told is what a store comes to: its entries, its journal, and of that the link and the number of the last record.
type told struct {
	entries map[string]string
	journal []byte
	link    [32]byte
	records int
}

func newByWords() *told {
	return &told{map[string]string{}, []byte(headText), sha256.Sum256([]byte(headText)), 0}
}

func (w *told) clone() *told {
	return &told{maps.Clone(w.entries), slices.Clone(w.journal), w.link, w.records}
}

func (w *told) names() []string { return slices.Sorted(maps.Keys(w.entries)) }

// can does a change, if it can be; else it tells why not.
func can(entries map[string]string, c api.Change) api.Errno {
	for _, r := range []byte(c.Name) {
		if r <= ' ' || r >= 0x7f {
			return api.ErrEntry
		}
	}
	if c.Name == "" || len(c.Name) > mostName {
		return api.ErrEntry
	}
	if len(c.Data) > mostData {
		return api.ErrLong
	}
	if !c.Delete {
		entries[c.Name] = string(c.Data)
		return api.OK
	}
	if len(c.Data) != 0 {
		return api.ErrArg
	}
	if _, is := entries[c.Name]; !is {
		return api.ErrEntry
	}
	delete(entries, c.Name)
	return api.OK
}

func number(n int) []byte { return binary.AppendUvarint(nil, uint64(n)) }

// sized is bytes behind their number.
func sized(b []byte) []byte { return append(number(len(b)), b...) }

func bit(is bool) byte {
	if is {
		return 1
	}
	return 0
}

func bodyByWords(n uint32, goesOn bool, l []api.Change) []byte {
	var items []byte
	for _, c := range l {
		item := slices.Concat([]byte{0x0a}, sized([]byte(c.Name)), []byte{0x10, bit(c.Delete), 0x1a}, sized(c.Data))
		items = append(items, sized(item)...)
	}
	b := binary.LittleEndian.AppendUint32([]byte{0x0d}, n)
	return slices.Concat(b, []byte{0x10, bit(goesOn), 0x1a}, sized(items))
}

func linkByWords(ahead [32]byte, body []byte) [32]byte {
	return sha256.Sum256(slices.Concat(ahead[:], body))
}

// record lays a record with this body behind the journal; nothing is looked at.
func (w *told) record(body []byte) {
	w.link = linkByWords(w.link, body)
	w.journal = append(w.journal, sized(body)...)
	w.journal = append(w.journal, w.link[:16]...)
	w.records++
}

// batch lays the records of a batch behind the journal; nothing is looked at.
func (w *told) batch(l []api.Change) {
	for len(l) > 0 {
		n := min(len(l), mostChanges)
		w.record(bodyByWords(uint32(w.records+1), n < len(l), l[:n]))
		l = l[n:]
	}
}

// sizeByWords is how many bytes the records of a batch have.
func sizeByWords(l []api.Change) int {
	all := 0
	for part := range slices.Chunk(l, mostChanges) {
		items := 0
		for _, c := range part {
			item := 1 + len(number(len(c.Name))) + len(c.Name) + 2 + 1 + len(number(len(c.Data))) + len(c.Data)
			items += len(number(item)) + item
		}
		body := 5 + 2 + 1 + len(number(items)) + items
		all += len(number(body)) + body + 16
	}
	return all
}

func (w *told) apply(l []api.Change) api.Errno {
	if len(l) > mostBatch {
		return api.ErrLong
	}
	later := maps.Clone(w.entries)
	for _, c := range l {
		if e := can(later, c); e != api.OK {
			return e
		}
	}
	if len(w.journal)+sizeByWords(l) > mostJournal {
		return api.ErrFull
	}
	w.batch(l)
	w.entries = later
	return api.OK
}

func (w *told) puts() []api.Change {
	var l []api.Change
	for _, name := range w.names() {
		l = append(l, put(name, w.entries[name]))
	}
	return l
}

func (w *told) compact() api.Errno {
	l := w.puts()
	if len(headText)+sizeByWords(l) > mostJournal {
		return api.ErrFull
	}
	fresh := newByWords()
	fresh.batch(l)
	w.journal, w.link, w.records = fresh.journal, fresh.link, fresh.records
	return api.OK
}

// cutSized is the bytes that stand behind their number at the beginning of b, and the rest; false, if they are not all there or the number has a shorter form.
func cutSized(b []byte) ([]byte, []byte, bool) {
	n, size := binary.Uvarint(b)
	if size <= 0 || len(binary.AppendUvarint(nil, n)) != size || n > uint64(len(b)-size) {
		return nil, nil, false
	}
	return b[size:][:n], b[size:][n:], true
}

// readBody is what a body tells, read loosely; what was read is written anew, and must come to the same bytes.
func readBody(body []byte) (n uint32, goesOn bool, l []api.Change, is bool) {
	if len(body) < 8 {
		return 0, false, nil, false
	}
	n, goesOn = binary.LittleEndian.Uint32(body[1:]), body[6] == 1
	items, _, is := cutSized(body[8:])
	for is && len(items) > 0 {
		var item, name, data []byte
		item, items, is = cutSized(items)
		if !is || len(item) == 0 {
			return 0, false, nil, false
		}
		name, item, is = cutSized(item[1:])
		if !is || len(item) < 3 {
			return 0, false, nil, false
		}
		gone := item[1] == 1
		data, _, is = cutSized(item[3:])
		l = append(l, api.Change{Name: string(name), Delete: gone, Data: data})
	}
	if !is || len(l) == 0 || len(l) > mostChanges || !bytes.Equal(bodyByWords(n, goesOn, l), body) {
		return 0, false, nil, false
	}
	return n, goesOn, l, true
}

// openByWords is what Open comes to.
func openByWords(b []byte) (*told, int, api.Errno) {
	if len(b) > mostJournal {
		return nil, 0, api.ErrLong
	}
	if len(b) < 8 || string(b[:8]) != headText && string(b[:8]) != elderText {
		return nil, 0, api.ErrJournal
	}
	if string(b[:8]) == elderText {
		return elderByWords(b)
	}
	w, under, rest := newByWords(), newByWords(), b[8:]
	for {
		body, behind, is := cutSized(rest)
		if !is || len(behind) < 16 {
			break
		}
		n, goesOn, l, is := readBody(body)
		link := linkByWords(under.link, body)
		if !is || int(n) != under.records+1 || !bytes.Equal(link[:16], behind[:16]) {
			break
		}
		for _, c := range l {
			is = is && can(under.entries, c) == api.OK
		}
		if !is {
			break
		}
		rest = behind[16:]
		under.link, under.records = link, under.records+1
		if !goesOn {
			w = &told{maps.Clone(under.entries), slices.Clone(b[:len(b)-len(rest)]), under.link, under.records}
		}
	}
	return w, len(w.journal), api.OK
}

// elderByWords is what Open comes to with a journal of the elder format.
func elderByWords(b []byte) (*told, int, api.Errno) {
	w, rest := newByWords(), b[8:]
	for len(rest) > 0 && (rest[0] == 1 || rest[0] == 2) {
		name, behind, is := cutSized(rest[1:])
		c := api.Change{Name: string(name), Delete: rest[0] == 2}
		if is && !c.Delete {
			c.Data, behind, is = cutSized(behind)
		}
		if !is || len(behind) < 4 {
			break
		}
		sum := sha256.Sum256(rest[:len(rest)-len(behind)])
		if !bytes.Equal(sum[:4], behind[:4]) || can(w.entries, c) != api.OK {
			break
		}
		rest = behind[4:]
	}
	if e := w.compact(); e != api.OK {
		return nil, 0, e
	}
	return w, len(b) - len(rest), api.OK
}

// elderRecord is a record of the elder format; nothing is looked at.
func elderRecord(c api.Change) []byte {
	b := append([]byte{1 + bit(c.Delete)}, sized([]byte(c.Name))...)
	if !c.Delete {
		b = append(b, sized(c.Data)...)
	}
	sum := sha256.Sum256(b)
	return append(b, sum[:4]...)
}

// checkStore holds all that a store tells against the words.
func checkStore(t testing.TB, what string, s *journal.Store, w *told) {
	t.Helper()
	if got := s.Bytes(); !bytes.Equal(got, w.journal) {
		t.Fatalf("%s: the journal is %s, not %s", what, short(got), short(w.journal))
	}
	if got := s.Head(); got != w.link {
		t.Fatalf("%s: the head is %x, not %x", what, got, w.link)
	}
	names := w.names()
	if got := s.Names(); !slices.Equal(got, names) {
		t.Fatalf("%s: the names are %q, not %q", what, got, names)
	}
	for _, name := range names {
		if got, is := s.Get(name); !is || string(got) != w.entries[name] {
			t.Fatalf("%s: Get(%q) is %s, %v, not %s", what, name, short(got), is, short([]byte(w.entries[name])))
		}
	}
	for _, name := range []string{"", "nobody", "a b", "A", "a\x00"} {
		if _, there := w.entries[name]; there {
			continue
		}
		if got, is := s.Get(name); is || len(got) > 0 {
			t.Fatalf("%s: Get(%q) is %s, %v", what, name, short(got), is)
		}
	}
}
