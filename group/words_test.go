package group_test

import (
	"crypto/aes"
	"crypto/cipher"
	"crypto/ed25519"
	"crypto/hkdf"
	"crypto/hmac"
	"crypto/sha256"
	"encoding/binary"
	"encoding/hex"
	"errors"
	"maps"
	"slices"
	"strings"

	"pawl/api"
	"pawl/schema"
)

// What the chapter says, done as it is said: bytes put together by hand, boxes, keys and signatures made by Go's own library, and what one member keeps as plain values. Of the program only layer 8 is asked, where the chapter names it.

const (
	mostPlain   = 1048576
	mostExtra   = 65536
	mostSkip    = 1000
	mostStore   = 2000
	mostCount   = 4294967295
	mostMembers = 32
	mostBox     = 2097168
)

// fine is what a call of Go's own library gives, which refuses nothing of what it is handed here.
func fine[T any](x T, err error) T {
	if err != nil {
		panic(err)
	}
	return x
}

func nameByWords(s string) bool {
	return s != "" && len(s) <= 16 && strings.Trim(s, "abcdefghijklmnopqrstuvwxyz") == ""
}

// Keys and boxes.

// givenByWords is what a seed gives: a chain's key, and a signing seed.
func givenByWords(seed []byte) (key, signing api.Key) {
	b := fine(hkdf.Expand(sha256.New, seed, "pawl group", 64))
	return api.Key(b[:32]), api.Key(b[32:])
}

func sumByWords(key api.Key, b ...byte) []byte {
	h := hmac.New(sha256.New, key[:])
	h.Write(b)
	return h.Sum(nil)
}

// stepByWords is the chain's next key, and the message's.
func stepByWords(key api.Key) (next, message api.Key) {
	return api.Key(sumByWords(key, 2)), api.Key(sumByWords(key, 1))
}

// messageByWords is the key of the message that stands so many steps ahead.
func messageByWords(key api.Key, steps int) api.Key {
	for range steps {
		key, _ = stepByWords(key)
	}
	_, message := stepByWords(key)
	return message
}

// cryptByWords turns a text into its cipher text, or back; tagByWords is the tag under which it stands.
func cryptByWords(message api.Key, b []byte) []byte {
	keys := fine(hkdf.Expand(sha256.New, message[:], "pawl message", 48))
	crypt := fine(hkdf.Expand(sha256.New, keys[:32], "pawl seal", 64))[:32]
	out := make([]byte, len(b))
	cipher.NewCTR(fine(aes.NewCipher(crypt)), keys[32:]).XORKeyStream(out, b)
	return out
}

func tagByWords(message api.Key, extra, text []byte) []byte {
	keys := fine(hkdf.Expand(sha256.New, message[:], "pawl message", 48))
	tag := api.Key(fine(hkdf.Expand(sha256.New, keys[:32], "pawl seal", 64))[32:])
	under := binary.LittleEndian.AppendUint64(nil, uint64(len(extra)))
	return sumByWords(tag, slices.Concat(under, extra, keys[32:], text)...)[:16]
}

func boxByWords(message api.Key, extra, body []byte) []byte {
	text := cryptByWords(message, body)
	return append(text, tagByWords(message, extra, text)...)
}

// openByWords is the body of a box, if the tag is its own.
func openByWords(message api.Key, extra, box []byte) ([]byte, bool) {
	text, tag := box[:len(box)-16], box[len(box)-16:]
	if !hmac.Equal(tag, tagByWords(message, extra, text)) {
		return nil, false
	}
	return cryptByWords(message, text), true
}

// bucketByWords is the least bucket of a version that has room for so many bytes.
func bucketByWords(version, n int) int {
	for bucket := 64; ; bucket *= 2 {
		if version == 1 && bucket >= n {
			return bucket
		}
		for m := 8; version == 2 && m < 16; m++ {
			if b := bucket / 8 * m; b >= n {
				return b
			}
		}
	}
}

func padByWords(version int, plain []byte) []byte {
	body := append(binary.LittleEndian.AppendUint32(nil, uint32(len(plain))), plain...)
	return append(body, make([]byte, bucketByWords(version, len(body))-len(body))...)
}

// unpadByWords is the plain text whose body it is, if there is one.
func unpadByWords(version int, body []byte) ([]byte, bool) {
	if len(body) < 4 {
		return nil, false
	}
	n := int(binary.LittleEndian.Uint32(body))
	if n > mostPlain || 4+n > len(body) {
		return nil, false
	}
	plain := body[4 : 4+n]
	return plain, string(padByWords(version, plain)) == string(body)
}

// Signatures.

func publicByWords(seed api.Key) api.Key {
	return api.Key(ed25519.NewKeyFromSeed(seed[:]).Public().(ed25519.PublicKey))
}

func signByWords(seed api.Key, b []byte) []byte {
	return ed25519.Sign(ed25519.NewKeyFromSeed(seed[:]), b)
}

// smallNumbers are the second numbers of the points for which anybody could sign.
var smallNumbers = []string{
	strings.Repeat("00", 32), "01" + strings.Repeat("00", 31), "ec" + strings.Repeat("ff", 30) + "7f",
	"c7176a703d4dd84fba3c0b760d10670f2a2053fa2c39ccc64ec7fd7792ac037a", "26e8958fc2b227b045c3f489f2ef98f0d5dfac05d3c63339b13802886d53fc05",
}

// checkByWords is whether sign.Check answers OK: Go's own Ed25519 takes small points and points in two forms, which that refuses.
func checkByWords(public api.Key, b, sig []byte) bool {
	number := public
	number[31] &= 0x7f
	if slices.Contains(smallNumbers, hex.EncodeToString(number[:])) {
		return false
	}
	ones := number[31] == 0x7f && strings.Trim(string(number[1:31]), "\xff") == ""
	if ones && number[0] >= 0xed {
		return false
	}
	return ed25519.Verify(public[:], b, sig)
}

// Bytes.

func keyField(head byte, k api.Key) []byte { return append([]byte{head, 32}, k[:]...) }

func countField(head byte, n uint32) []byte {
	return binary.LittleEndian.AppendUint32([]byte{head}, n)
}

func numberField(head byte, n int) []byte { return binary.AppendUvarint([]byte{head}, uint64(n)) }

func bytesField(head byte, b []byte) []byte {
	return append(binary.AppendUvarint([]byte{head}, uint64(len(b))), b...)
}

// listField is a field of items, each with the number of its bytes ahead of it.
func listField(head byte, items ...[]byte) []byte {
	var all []byte
	for _, b := range items {
		all = append(binary.AppendUvarint(all, uint64(len(b))), b...)
	}
	return bytesField(head, all)
}

// paper is the bytes of a card or of a message, as far as both have the same: whose they say to be.
type paper struct {
	id   api.Key
	name string
	gen  uint32
}

func (p paper) head() []byte {
	return slices.Concat(keyField(0x0a, p.id), bytesField(0x12, []byte(p.name)), countField(0x1d, p.gen))
}

// cardPaper is a card's parts, and letter a message's, whether they can be or not; signed makes bytes of them with whatever seed.
type cardPaper struct {
	paper
	key    api.Key
	num    uint32
	public api.Key
}

func (c cardPaper) text() []byte {
	return slices.Concat(c.head(), keyField(0x22, c.key), countField(0x2d, c.num), keyField(0x32, c.public))
}

func (c cardPaper) with(sig []byte) []byte {
	return append(c.text(), bytesField(0x3a, sig)...)
}

func (c cardPaper) signed(seed api.Key) []byte {
	return c.with(signByWords(seed, append([]byte("pawl card"), c.text()...)))
}

type letter struct {
	paper
	n   uint32
	box []byte
}

// bound is what a message's box answers for besides.
func (l letter) bound(extra []byte) []byte {
	return slices.Concat(l.head(), countField(0x25, l.n), extra)
}

func (l letter) text() []byte {
	return append(l.bound(nil), bytesField(0x2a, l.box)...)
}

func (l letter) with(sig []byte) []byte {
	return append(l.text(), bytesField(0x32, sig)...)
}

func (l letter) signed(seed api.Key) []byte {
	return l.with(signByWords(seed, append([]byte("pawl said"), l.text()...)))
}

func keyOf(no int) api.Slot { return api.Slot{No: no, Kind: api.KBytes, Least: 32, Most: 32} }

func countOf(no int) api.Slot { return api.Slot{No: no, Kind: api.KFixed32, Most: mostCount} }

func nameOf(no int) api.Slot { return api.Slot{No: no, Kind: api.KText, Least: 1, Most: 16} }

func sigOf(no int) api.Slot { return api.Slot{No: no, Kind: api.KBytes, Least: 64, Most: 64} }

func cardTable() []api.Slot {
	return []api.Slot{keyOf(1), nameOf(2), countOf(3), keyOf(4), countOf(5), keyOf(6), sigOf(7)}
}

func messageTable() []api.Slot {
	return []api.Slot{keyOf(1), nameOf(2), countOf(3), countOf(4), {No: 5, Kind: api.KBytes, Least: 16, Most: mostBox}, sigOf(6)}
}

func stateTable() []api.Slot {
	return []api.Slot{
		{No: 1, Kind: api.KNum, Least: 1, Most: 2}, {No: 2, Kind: api.KNum, Most: mostSkip}, {No: 3, Kind: api.KNum, Most: mostStore},
		keyOf(4), nameOf(5), countOf(6), keyOf(7), countOf(8), keyOf(9),
		{No: 10, Kind: api.KList, Most: 31, Sub: []api.Slot{nameOf(1), {No: 2, Kind: api.KList, Least: 1, Most: 2, Sub: []api.Slot{countOf(1), keyOf(2), keyOf(3), countOf(4)}}}},
		{No: 11, Kind: api.KList, Most: mostStore, Sub: []api.Slot{keyOf(1), countOf(2), keyOf(3)}},
	}
}

// readByWords is the parts whose bytes they are.
func readByWords(table []api.Slot, b []byte, part int) ([]api.Value, error) {
	c, e := schema.Compile(table)
	if e != api.OK {
		panic(e)
	}
	v, err := c.Decode(b)
	var f *api.Fault
	if errors.As(err, &f) {
		return nil, wrap(part, f)
	}
	return v.Parts, nil
}

func wrap(part int, err error) error { return &api.Wrap{Part: part, Err: err} }

func paperOf(v []api.Value) paper {
	return paper{api.Key(v[0].Data), string(v[1].Data), uint32(v[2].Num)}
}

// What one member keeps.

// known is a card that is kept: its chain as far as it was read.
type known struct {
	gen         uint32
	public, key api.Key
	num         uint32
}

// side is a group; of the others the current card stands first.
type side struct {
	id     api.Key
	config api.Config
	me     string
	gen    uint32
	key    api.Key
	num    uint32
	seed   api.Key
	others map[string][]known
	spares []api.Spare
}

// copied is a side that shares nothing.
func (s *side) copied() *side {
	c := *s
	c.others, c.spares = map[string][]known{}, slices.Clone(s.spares)
	for name, cards := range s.others {
		c.others[name] = slices.Clone(cards)
	}
	return &c
}

// newByWords is P24.1.
func newByWords(id api.Key, me string, seed []byte, c api.Config) (*side, api.Errno) {
	switch {
	case c.Version != 1 && c.Version != 2:
		return nil, api.ErrVersion
	case c.Skip < 0, c.Skip > mostSkip, c.Store < 0, c.Store > mostStore, !nameByWords(me):
		return nil, api.ErrArg
	case len(seed) != 32:
		return nil, api.ErrSize
	}
	s := &side{id: id, config: c, me: me, others: map[string][]known{}}
	s.key, s.seed = givenByWords(seed)
	return s, api.OK
}

func (s *side) paper() paper { return paper{s.id, s.me, s.gen} }

func (s *side) cardPaper() cardPaper {
	return cardPaper{s.paper(), s.key, s.num, publicByWords(s.seed)}
}

func (s *side) card() []byte { return s.cardPaper().signed(s.seed) }

func (s *side) members() []string {
	return slices.Sorted(maps.Keys(s.withMe()))
}

// withMe is the names of all that are known.
func (s *side) withMe() map[string]struct{} {
	all := map[string]struct{}{s.me: {}}
	for name := range s.others {
		all[name] = struct{}{}
	}
	return all
}

// learn is P24.3.
func (s *side) learn(b []byte) error {
	v, err := readByWords(cardTable(), b, api.PartEnvelope)
	if err != nil {
		return err
	}
	c := cardPaper{paperOf(v), api.Key(v[3].Data), uint32(v[4].Num), api.Key(v[5].Data)}
	switch {
	case c.id != s.id:
		return wrap(api.PartArgs, api.ErrForeign)
	case !nameByWords(c.name):
		return wrap(api.PartArgs, api.ErrArg)
	case c.name == s.me:
		return wrap(api.PartArgs, api.ErrSelf)
	case !checkByWords(c.public, append([]byte("pawl card"), c.text()...), v[6].Data):
		return wrap(api.PartArgs, api.ErrCard)
	}
	cards := s.others[c.name]
	switch {
	case len(cards) > 0 && cards[0].gen >= c.gen:
		return wrap(api.PartRatchet, api.ErrElder)
	case len(cards) == 0 && len(s.withMe()) == mostMembers:
		return wrap(api.PartRatchet, api.ErrFull)
	}
	cards = append([]known{{c.gen, c.public, c.key, c.num}}, cards...)
	s.others[c.name] = cards[:min(2, len(cards))]
	for _, gone := range cards[len(s.others[c.name]):] {
		s.drop(gone.public)
	}
	return nil
}

// has: a card of that public key is kept.
func (s *side) has(public api.Key) bool {
	for _, cards := range s.others {
		for _, c := range cards {
			if c.public == public {
				return true
			}
		}
	}
	return false
}

// drop is what becomes of the spares of a card's public key that is gone.
func (s *side) drop(public api.Key) {
	if !s.has(public) {
		s.spares = slices.DeleteFunc(s.spares, func(x api.Spare) bool { return x.Header == public })
	}
}

// send is P24.4.
func (s *side) send(plain, extra []byte) ([]byte, error) {
	switch {
	case len(plain) > mostPlain:
		return nil, wrap(api.PartPadding, api.ErrLong)
	case len(extra) > mostExtra:
		return nil, wrap(api.PartArgs, api.ErrLong)
	case s.num == mostCount:
		return nil, wrap(api.PartRatchet, api.ErrExhausted)
	}
	next, message := stepByWords(s.key)
	l := letter{paper: s.paper(), n: s.num}
	l.box = boxByWords(message, l.bound(extra), padByWords(s.config.Version, plain))
	s.key, s.num = next, s.num+1
	return l.signed(s.seed), nil
}

// spare is where the spare of a public key and a number lies; -1, if there is none.
func (s *side) spare(public api.Key, n uint32) int {
	return slices.IndexFunc(s.spares, func(x api.Spare) bool { return x.Header == public && x.N == n })
}

// receive is P24.5.
func (s *side) receive(b, extra []byte) (api.Said, error) {
	if len(extra) > mostExtra {
		return api.Said{}, wrap(api.PartArgs, api.ErrLong)
	}
	v, err := readByWords(messageTable(), b, api.PartEnvelope)
	if err != nil {
		return api.Said{}, err
	}
	l := letter{paperOf(v), uint32(v[3].Num), v[4].Data}
	cards := s.others[l.name]
	at := slices.IndexFunc(cards, func(c known) bool { return c.gen == l.gen })
	switch {
	case l.id != s.id:
		return api.Said{}, wrap(api.PartArgs, api.ErrForeign)
	case l.name == s.me:
		return api.Said{}, wrap(api.PartArgs, api.ErrSelf)
	case at < 0:
		return api.Said{}, wrap(api.PartRatchet, api.ErrMember)
	case !checkByWords(cards[at].public, append([]byte("pawl said"), l.text()...), v[5].Data):
		return api.Said{}, wrap(api.PartHeader, api.ErrSignature)
	}
	after, message, e := s.reach(l.name, at, l.n)
	if e != api.OK {
		return api.Said{}, wrap(api.PartRatchet, e)
	}
	body, opens := openByWords(message, l.bound(extra), l.box)
	if !opens {
		return api.Said{}, wrap(api.PartBody, api.ErrBody)
	}
	plain, padded := unpadByWords(s.config.Version, body)
	if !padded {
		return api.Said{}, wrap(api.PartPadding, api.ErrPadding)
	}
	*s = *after
	return api.Said{Member: l.name, Gen: l.gen, N: l.n, Plain: plain}, nil
}

// reach is the key of a member's message, and the side as it is when that has opened it.
func (s *side) reach(name string, at int, n uint32) (*side, api.Key, api.Errno) {
	after := s.copied()
	c := &after.others[name][at]
	if i := s.spare(c.public, n); i >= 0 {
		after.spares = slices.Delete(after.spares, i, i+1)
		return after, s.spares[i].Message, api.OK
	}
	switch {
	case n < c.num:
		return nil, api.Key{}, api.ErrOld
	case n == mostCount:
		return nil, api.Key{}, api.ErrExhausted
	case n-c.num > uint32(s.config.Skip):
		return nil, api.Key{}, api.ErrSkip
	}
	var message api.Key
	for i := c.num; i < n; i++ {
		if s.spare(c.public, i) >= 0 {
			return nil, api.Key{}, api.ErrTwice
		}
	}
	for c.num < n {
		c.key, message = stepByWords(c.key)
		after.spares = append(after.spares, api.Spare{Header: c.public, N: c.num, Message: message})
		c.num++
	}
	if c.num-s.others[name][at].num > 0 && len(after.spares) > s.config.Store {
		return nil, api.Key{}, api.ErrStore
	}
	c.key, message = stepByWords(c.key)
	c.num++
	return after, message, api.OK
}

// renew and remove are P24.6 and P24.7.
func (s *side) renew(seed []byte) api.Errno {
	switch {
	case len(seed) != 32:
		return api.ErrSize
	case s.gen == mostCount:
		return api.ErrExhausted
	}
	s.gen, s.num = s.gen+1, 0
	s.key, s.seed = givenByWords(seed)
	return api.OK
}

func (s *side) remove(member string, seed []byte) api.Errno {
	cards := s.others[member]
	switch {
	case member == s.me:
		return api.ErrSelf
	case len(cards) == 0:
		return api.ErrMember
	}
	if e := s.renew(seed); e != api.OK {
		return e
	}
	delete(s.others, member)
	for _, c := range cards {
		s.drop(c.public)
	}
	return api.OK
}

// export is P24.8's bytes.
func (s *side) export() []byte {
	var people, spares [][]byte
	for _, name := range slices.Sorted(maps.Keys(s.others)) {
		people = append(people, memberBytes(name, s.others[name]...))
	}
	for _, x := range s.spares {
		spares = append(spares, slices.Concat(keyField(0x0a, x.Header), countField(0x15, x.N), keyField(0x1a, x.Message)))
	}
	return slices.Concat(s.ownBytes(), listField(0x52, people...), listField(0x5a, spares...))
}

// ownBytes are the fields ahead of the lists, and memberBytes one item of the first list.
func (s *side) ownBytes() []byte {
	return slices.Concat(
		numberField(0x08, s.config.Version), numberField(0x10, s.config.Skip), numberField(0x18, s.config.Store),
		keyField(0x22, s.id), bytesField(0x2a, []byte(s.me)),
		countField(0x35, s.gen), keyField(0x3a, s.key), countField(0x45, s.num), keyField(0x4a, s.seed),
	)
}

func memberBytes(name string, cards ...known) []byte {
	var l [][]byte
	for _, c := range cards {
		l = append(l, slices.Concat(countField(0x0d, c.gen), keyField(0x12, c.public), keyField(0x1a, c.key), countField(0x25, c.num)))
	}
	return slices.Concat(bytesField(0x0a, []byte(name)), listField(0x12, l...))
}

// importByWords is P24.8's Import.
func importByWords(b []byte) (*side, error) {
	v, err := readByWords(stateTable(), b, api.PartState)
	if err != nil {
		return nil, err
	}
	s := &side{
		id: api.Key(v[3].Data), config: api.Config{Version: int(v[0].Num), Skip: int(v[1].Num), Store: int(v[2].Num)}, me: string(v[4].Data),
		gen: uint32(v[5].Num), key: api.Key(v[6].Data), num: uint32(v[7].Num), seed: api.Key(v[8].Data), others: map[string][]known{},
	}
	can := nameByWords(s.me)
	last := ""
	for _, m := range v[9].Parts {
		name := string(m.Parts[0].Data)
		for _, c := range m.Parts[1].Parts {
			s.others[name] = append(s.others[name], known{uint32(c.Parts[0].Num), api.Key(c.Parts[1].Data), api.Key(c.Parts[2].Data), uint32(c.Parts[3].Num)})
		}
		cards := s.others[name]
		can = can && nameByWords(name) && name > last && name != s.me && (len(cards) < 2 || cards[1].gen < cards[0].gen)
		last = name
	}
	for _, x := range v[10].Parts {
		header, n := api.Key(x.Parts[0].Data), uint32(x.Parts[1].Num)
		can = can && s.spare(header, n) < 0 && s.has(header)
		s.spares = append(s.spares, api.Spare{Header: header, N: n, Message: api.Key(x.Parts[2].Data)})
	}
	if !can || len(s.spares) > s.config.Store {
		return nil, wrap(api.PartState, api.ErrExport)
	}
	return s, nil
}
