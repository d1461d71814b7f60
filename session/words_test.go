package session_test

import (
	"encoding/binary"
	"slices"

	"pawl/api"
	"pawl/envelope"
	"pawl/ratchet"
	"pawl/schema"
)

// What the chapter says, done as it is said: on a plain state, by the calls of the layers below that its words name, and by nothing of this one. The bytes of states are put together and read by hand.

const (
	mostPlain = 1048576
	mostExtra = 65536
	mostSkip  = 1000
	mostStore = 2000
	mostCount = 4294967295
)

// sideByWords is a side: its state.
type sideByWords struct{ s api.State }

// copied is a state with a list of its own.
func copied(s api.State) api.State {
	s.Spares = slices.Clone(s.Spares)
	return s
}

// side is the layer below with just that state.
func (w *sideByWords) side() *ratchet.Ratchet {
	r, why := ratchet.From(w.s)
	if why != api.OK {
		panic(why)
	}
	return r
}

func (w *sideByWords) send(plain, extra, seed []byte) ([]byte, error) {
	switch {
	case len(plain) > mostPlain:
		return nil, &api.Wrap{Part: api.PartPadding, Err: api.ErrLong}
	case len(extra) > mostExtra:
		return nil, &api.Wrap{Part: api.PartArgs, Err: api.ErrLong}
	case w.s.Turn && len(seed) != 32:
		return nil, &api.Wrap{Part: api.PartArgs, Err: api.ErrSize}
	}
	body, why := envelope.Pad(w.s.Config.Version, plain)
	if why != api.OK {
		panic(why)
	}
	r := w.side()
	e, why := r.Seal(body, extra, seed)
	if why != api.OK {
		return nil, &api.Wrap{Part: api.PartRatchet, Err: why}
	}
	w.s = r.State()
	b, err := envelope.Pack(e)
	if err != nil {
		panic(err)
	}
	return b, nil
}

func (w *sideByWords) receive(b, extra []byte) (api.Heard, error) {
	if len(extra) > mostExtra {
		return api.Heard{}, &api.Wrap{Part: api.PartArgs, Err: api.ErrLong}
	}
	e, err := envelope.Parse(b)
	if err != nil {
		return api.Heard{}, &api.Wrap{Part: api.PartEnvelope, Err: err}
	}
	if e.Version != w.s.Config.Version {
		return api.Heard{}, &api.Wrap{Part: api.PartEnvelope, Err: api.ErrVersion}
	}
	r := w.side()
	body, work, why := r.Open(e, extra)
	switch why {
	case api.OK:
	case api.ErrHeader:
		return api.Heard{Work: work}, &api.Wrap{Part: api.PartHeader, Err: why}
	case api.ErrBody:
		return api.Heard{Work: work}, &api.Wrap{Part: api.PartBody, Err: why}
	default:
		return api.Heard{Work: work}, &api.Wrap{Part: api.PartRatchet, Err: why}
	}
	plain, why := envelope.Unpad(w.s.Config.Version, body)
	if why != api.OK {
		return api.Heard{Work: work}, &api.Wrap{Part: api.PartPadding, Err: why}
	}
	w.s = r.State()
	return api.Heard{Plain: plain, Work: work}, nil
}

func (w *sideByWords) forget(n int) int {
	n = min(max(n, 0), len(w.s.Spares))
	w.s.Spares = slices.Clone(w.s.Spares[n:])
	return n
}

// The bytes of a state.

func keyField(head byte, k api.Key) []byte { return append([]byte{head, 32}, k[:]...) }

func countField(head byte, n uint32) []byte {
	return binary.LittleEndian.AppendUint32([]byte{head}, n)
}

func numberField(head byte, n int) []byte { return binary.AppendUvarint([]byte{head}, uint64(n)) }

// listField is a field of items, each with the number of its bytes ahead of it.
func listField(head byte, items ...[]byte) []byte {
	var all []byte
	for _, b := range items {
		all = append(binary.AppendUvarint(all, uint64(len(b))), b...)
	}
	return append(binary.AppendUvarint([]byte{head}, uint64(len(all))), all...)
}

// perhapsField is a field of one item, or of none.
func perhapsField(head byte, is bool, parts ...[]byte) []byte {
	if !is {
		return []byte{head, 0}
	}
	return listField(head, slices.Concat(parts...))
}

// bytesByWords are the thirteen fields of the chapter's table.
func bytesByWords(s api.State) []byte {
	turn := byte(0)
	if s.Turn {
		turn = 1
	}
	var spares [][]byte
	for _, x := range s.Spares {
		spares = append(spares, slices.Concat(keyField(0x0a, x.Header), countField(0x15, x.N), keyField(0x1a, x.Message)))
	}
	return slices.Concat(
		numberField(0x08, s.Config.Version),
		numberField(0x10, s.Config.Skip),
		numberField(0x18, s.Config.Store),
		keyField(0x22, s.Root),
		perhapsField(0x2a, s.HasOwn, keyField(0x0a, s.Own.Private), keyField(0x12, s.Own.Public)),
		perhapsField(0x32, s.HasPeer, keyField(0x0a, s.Peer)),
		[]byte{0x38, turn},
		perhapsField(0x42, s.HasSend, keyField(0x0a, s.Send), keyField(0x12, s.SendHeader), countField(0x1d, s.SendN)),
		keyField(0x4a, s.NextSend),
		countField(0x55, s.Prev),
		perhapsField(0x5a, s.HasRecv, keyField(0x0a, s.Recv), keyField(0x12, s.RecvHeader), countField(0x1d, s.RecvN)),
		keyField(0x62, s.NextRecv),
		listField(0x6a, spares...),
	)
}

// reader goes along bytes that are known to be those of the chapter's schema.
type reader struct{ b []byte }

func (r *reader) take(n int) []byte {
	out := r.b[:n]
	r.b = r.b[n:]
	return out
}

// head is the byte with which a field begins: a field's number and type need no more of them.
func (r *reader) head() { r.take(1) }

func (r *reader) uvarint() int {
	n, size := binary.Uvarint(r.b)
	r.take(size)
	return int(n)
}

func (r *reader) number() int {
	r.head()
	return r.uvarint()
}

func (r *reader) key() api.Key {
	r.take(2)
	return api.Key(r.take(32))
}

func (r *reader) count() uint32 {
	r.head()
	return binary.LittleEndian.Uint32(r.take(4))
}

// list is the items of a field, to be read one by one.
func (r *reader) list() []*reader {
	r.head()
	all := &reader{r.take(r.uvarint())}
	var items []*reader
	for len(all.b) > 0 {
		items = append(items, &reader{all.take(all.uvarint())})
	}
	return items
}

// stateByWords reads what bytesByWords writes, whether the state can be or not.
func stateByWords(b []byte) api.State {
	r := &reader{b}
	var s api.State
	s.Config.Version, s.Config.Skip, s.Config.Store = r.number(), r.number(), r.number()
	s.Root = r.key()
	for _, x := range r.list() {
		s.HasOwn, s.Own.Private, s.Own.Public = true, x.key(), x.key()
	}
	for _, x := range r.list() {
		s.HasPeer, s.Peer = true, x.key()
	}
	s.Turn = r.number() == 1
	for _, x := range r.list() {
		s.HasSend, s.Send, s.SendHeader, s.SendN = true, x.key(), x.key(), x.count()
	}
	s.NextSend, s.Prev = r.key(), r.count()
	for _, x := range r.list() {
		s.HasRecv, s.Recv, s.RecvHeader, s.RecvN = true, x.key(), x.key(), x.count()
	}
	s.NextRecv = r.key()
	for _, x := range r.list() {
		s.Spares = append(s.Spares, api.Spare{Header: x.key(), N: x.count(), Message: x.key()})
	}
	return s
}

// tableByWords is the chapter's table.
func tableByWords() []api.Slot {
	key := func(no int) api.Slot { return api.Slot{No: no, Kind: api.KBytes, Least: 32, Most: 32} }
	count := func(no int) api.Slot { return api.Slot{No: no, Kind: api.KFixed32, Least: 0, Most: 4294967295} }
	chain := []api.Slot{key(1), key(2), count(3)}
	return []api.Slot{
		{No: 1, Kind: api.KNum, Least: 1, Most: 2},
		{No: 2, Kind: api.KNum, Least: 0, Most: 1000},
		{No: 3, Kind: api.KNum, Least: 0, Most: 2000},
		key(4),
		{No: 5, Kind: api.KList, Least: 0, Most: 1, Sub: []api.Slot{key(1), key(2)}},
		{No: 6, Kind: api.KList, Least: 0, Most: 1, Sub: []api.Slot{key(1)}},
		{No: 7, Kind: api.KFlag},
		{No: 8, Kind: api.KList, Least: 0, Most: 1, Sub: chain},
		key(9),
		count(10),
		{No: 11, Kind: api.KList, Least: 0, Most: 1, Sub: chain},
		key(12),
		{No: 13, Kind: api.KList, Least: 0, Most: 2000, Sub: []api.Slot{key(1), count(2), key(3)}},
	}
}

// decodeByWords is what Decode has to answer.
func decodeByWords(b []byte) (api.State, error) {
	c, why := schema.Compile(tableByWords())
	if why != api.OK {
		panic(why)
	}
	if _, err := c.Decode(b); err != nil {
		return api.State{}, &api.Wrap{Part: api.PartState, Err: err}
	}
	s := stateByWords(b)
	if ratchet.Check(s) != api.OK {
		return api.State{}, &api.Wrap{Part: api.PartState, Err: api.ErrExport}
	}
	return s, nil
}
