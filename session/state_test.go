package session_test

import (
	"bytes"
	"math"
	"slices"
	"testing"

	"pawl/api"
	"pawl/ratchet"
	"pawl/session"
)

// P15.6, P15.7 and P15.9

// laidDown holds that a state is encoded, decoded and imported as the words have it.
func laidDown(t *testing.T, what string, s api.State) []byte {
	t.Helper()
	want := bytesByWords(s)
	b, err := session.Encode(s)
	if err != nil || !bytes.Equal(b, want) {
		t.Fatalf("%s: Encode: %v\n%x, not\n%x", what, err, b, want)
	}
	got, err := session.Decode(b)
	if err != nil || !same(got, s) {
		t.Fatalf("%s: Decode: %v\n%+v, not\n%+v", what, err, got, s)
	}
	from(t, s)
	return b
}

func TestStatesThatCanBe(t *testing.T) {
	d := newDrawer(930)
	for what, s := range states(d) {
		for _, c := range []api.Config{{Version: 1, Store: 5}, {Version: 2, Skip: 127, Store: 127}, {Version: 1, Skip: 128, Store: 128}, {Version: 2, Skip: mostSkip, Store: mostStore}} {
			s.Config = c
			laidDown(t, what, s)
		}
	}
	s := d.full(good, 3)
	s.Spares[1].Header = d.key()
	for _, n := range []uint32{0, 1, 127, 128, 255, 256, 65536, 1 << 24, 1 << 31, mostCount - 1, mostCount} {
		for _, p := range []*uint32{&s.SendN, &s.Prev, &s.RecvN, &s.Spares[1].N} {
			was := *p
			*p = n
			laidDown(t, "a counter", s)
			*p = was
		}
	}
	s = api.State{Config: good, HasPeer: true, HasOwn: true, Own: d.pair(), HasSend: true, HasRecv: true, Spares: []api.Spare{{}}}
	laidDown(t, "keys of zeros", s)
}

// Each field, a byte of its own, so that none stands in another's place.
func TestStateTellsItsParts(t *testing.T) {
	of := func(n byte) api.Key { return api.Key(bytes.Repeat([]byte{n}, 32)) }
	d := newDrawer(931)
	own := d.pair()
	s := api.State{Config: api.Config{Version: 2, Skip: 300, Store: 5}, Root: of(1), Own: own, HasOwn: true, Peer: of(2), HasPeer: true, Turn: true,
		Send: of(3), SendHeader: of(4), NextSend: of(5), SendN: 0x01020304, Prev: 0x05060708, HasSend: true,
		Recv: of(6), RecvHeader: of(7), NextRecv: of(8), RecvN: 0x090a0b0c, HasRecv: true,
		Spares: []api.Spare{{Header: of(9), N: 0x0d0e0f10, Message: of(10)}, {Header: of(11), N: 1, Message: of(12)}}}
	b := laidDown(t, "a whole one", s)
	parts := [][]byte{
		{0x08, 2, 0x10, 0xac, 2, 0x18, 5},
		{0x22, 32}, bytes.Repeat([]byte{1}, 32),
		{0x2a, 69, 68, 0x0a, 32}, own.Private[:], {0x12, 32}, own.Public[:],
		{0x32, 35, 34, 0x0a, 32}, bytes.Repeat([]byte{2}, 32),
		{0x38, 1},
		{0x42, 74, 73, 0x0a, 32}, bytes.Repeat([]byte{3}, 32), {0x12, 32}, bytes.Repeat([]byte{4}, 32), {0x1d, 4, 3, 2, 1},
		{0x4a, 32}, bytes.Repeat([]byte{5}, 32),
		{0x55, 8, 7, 6, 5},
		{0x5a, 74, 73, 0x0a, 32}, bytes.Repeat([]byte{6}, 32), {0x12, 32}, bytes.Repeat([]byte{7}, 32), {0x1d, 12, 11, 10, 9},
		{0x62, 32}, bytes.Repeat([]byte{8}, 32),
		{0x6a, 0x94, 1},
		{73, 0x0a, 32}, bytes.Repeat([]byte{9}, 32), {0x15, 16, 15, 14, 13}, {0x1a, 32}, bytes.Repeat([]byte{10}, 32),
		{73, 0x0a, 32}, bytes.Repeat([]byte{11}, 32), {0x15, 1, 0, 0, 0}, {0x1a, 32}, bytes.Repeat([]byte{12}, 32),
	}
	if want := slices.Concat(parts...); !bytes.Equal(b, want) {
		t.Errorf("%x, not\n%x", b, want)
	}
}

// As many spares as may be.
func TestStateOfManySpares(t *testing.T) {
	d := newDrawer(932)
	s := d.full(api.Config{Version: 1, Skip: mostSkip, Store: mostStore}, mostStore)
	b := laidDown(t, "all spares", s)
	s.Spares = append(s.Spares, api.Spare{N: 1})
	long := bytesByWords(s)
	if _, err := session.Encode(s); !sameError(err, wrap(api.PartState, api.ErrState)) {
		t.Errorf("Encode of one more: %v", err)
	}
	undone(t, "one more", long, wrap(api.PartState, &api.Fault{At: len(b) - 2000*74 - 4, Why: api.ErrRange}))
	s = d.full(api.Config{Version: 1, Skip: mostSkip, Store: 7}, 8)
	undone(t, "more than Store", bytesByWords(s), wrap(api.PartState, api.ErrExport))
}

// undone holds that bytes are refused by Decode and by Import, for this reason and as the words have it.
func undone(t *testing.T, what string, b []byte, want error) {
	t.Helper()
	if _, by := decodeByWords(b); !sameError(by, want) {
		t.Fatalf("%s: the words say %v, not %v", what, by, want)
	}
	if got, err := session.Decode(b); !same(got, api.State{}) || !sameError(err, want) {
		t.Errorf("%s: Decode: %v, not %v", what, err, want)
	}
	if got, err := session.Import(b); got != nil || !sameError(err, want) {
		t.Errorf("%s: Import: %v, %v, not %v", what, got, err, want)
	}
}

// decides holds whatever the words say of bytes: whether it was a state.
func decides(t *testing.T, what string, b []byte) error {
	t.Helper()
	s, want := decodeByWords(b)
	if want != nil {
		undone(t, what, b, want)
		return want
	}
	got, err := session.Decode(b)
	if err != nil || !same(got, s) {
		t.Fatalf("%s: Decode: %v\n%+v, not\n%+v", what, err, got, s)
	}
	if again, err := session.Encode(got); err != nil || !bytes.Equal(again, b) {
		t.Fatalf("%s: %x is encoded as %x, %v", what, b, again, err)
	}
	return nil
}

// Each single condition of a state, broken: Encode tells the ratchet's error, Decode ErrExport.
func TestStatesThatCantBe(t *testing.T) {
	d := newDrawer(933)
	all := states(d)
	for _, x := range []struct {
		what, of string
		spoil    func(s *api.State)
	}{
		{"a private key that is not clamped", "bob", func(s *api.State) { s.Own.Private[0] |= 1 }},
		{"another public key", "bob", func(s *api.State) { s.Own.Public[31] ^= 1 }},
		{"a public key in another form", "bob", func(s *api.State) { s.Own.Public[31] ^= 128 }},
		{"no peer, the turn", "bob", func(s *api.State) { s.Turn = true }},
		{"no peer, a sending chain", "bob", func(s *api.State) { s.HasSend = true }},
		{"no peer, a receiving chain", "bob", func(s *api.State) { s.HasRecv = true }},
		{"no peer, both chains", "full", func(s *api.State) { s.Peer, s.HasPeer = api.Key{}, false }},
		{"a peer, neither turn nor chain", "bob", func(s *api.State) { s.HasPeer, s.Peer = true, d.key() }},
		{"a peer, a receiving chain alone", "heard", func(s *api.State) { s.Turn = false }},
		{"a sending chain without a pair", "sent", func(s *api.State) { s.HasOwn, s.Own = false, api.Pair{} }},
		{"a receiving chain without a pair", "heard", func(s *api.State) { s.HasOwn, s.Own = false, api.Pair{} }},
		{"no sending chain, a number ahead", "alice", func(s *api.State) { s.Prev = 1 }},
		{"no sending chain, a great number ahead", "bob", func(s *api.State) { s.Prev = mostCount }},
		{"more spares than may be", "full", func(s *api.State) { s.Config.Store = 4 }},
		{"spares where none may be", "full", func(s *api.State) { s.Config.Store, s.Spares = 0, s.Spares[:1] }},
		{"two spares that meet", "full", func(s *api.State) { s.Spares = append(slices.Clone(s.Spares), s.Spares[2]) }},
		{"of other keys", "bob", func(s *api.State) { s.Spares = []api.Spare{{N: 3, Message: d.key()}, {N: 3, Message: d.key()}} }},
	} {
		s := copied(all[x.of])
		laidDown(t, x.of, s)
		x.spoil(&s)
		unwritten(t, x.what, s, api.ErrState)
		undone(t, x.what, bytesByWords(s), wrap(api.PartState, api.ErrExport))
	}
}

// unwritten holds that a state is not encoded, for this reason.
func unwritten(t *testing.T, what string, s api.State, want api.Errno) {
	t.Helper()
	if by := ratchet.Check(s); by != want {
		t.Fatalf("%s: Check says %v, not %v", what, by, want)
	}
	if b, err := session.Encode(s); len(b) != 0 || !sameError(err, wrap(api.PartState, want)) {
		t.Errorf("%s: Encode: %x, %v, not %v", what, b, err, want)
	}
}

// What bytes can't tell: keys and numbers of what is not there, and configs out of their bounds.
func TestStatesThatBytesCantTell(t *testing.T) {
	d := newDrawer(934)
	all := states(d)
	for what, change := range map[string]func(s *api.State){
		"alice": func(s *api.State) { s.Own.Private[3] = 1 },
		"bob":   func(s *api.State) { s.Peer[31] = 128 },
		"heard": func(s *api.State) { s.Send[3] = 1 },
		"sent":  func(s *api.State) { s.RecvN = 1 },
	} {
		s := copied(all[what])
		change(&s)
		unwritten(t, what, s, api.ErrState)
	}
	s := all["heard"]
	s.SendN = 1
	unwritten(t, "a number of no chain", s, api.ErrState)
	s = all["sent"]
	s.RecvHeader[0] = 1
	unwritten(t, "a header key of no chain", s, api.ErrState)
	s = all["full"]
	for _, version := range wrongVersions {
		s.Config = api.Config{Version: version, Skip: -1, Store: -1}
		unwritten(t, "a version", s, api.ErrVersion)
	}
	for _, n := range outside(mostSkip) {
		s.Config = api.Config{Version: 1, Skip: n, Store: 5}
		unwritten(t, "Skip", s, api.ErrArg)
	}
	for _, n := range outside(mostStore) {
		s.Config = api.Config{Version: 1, Skip: 5, Store: n}
		unwritten(t, "Store", s, api.ErrArg)
	}
	unwritten(t, "nothing at all", api.State{}, api.ErrVersion)
}

// Bytes of configs out of their bounds are refused by the schema, with the field's place.
func TestBytesOfConfigs(t *testing.T) {
	d := newDrawer(935)
	s := d.full(good, 0)
	fault := func(at int) error { return wrap(api.PartState, &api.Fault{At: at, Why: api.ErrRange}) }
	for _, n := range []int{0, 3, 127, 128, 257, 1<<32 + 1, math.MaxInt} {
		s.Config = api.Config{Version: n, Skip: 5, Store: 5}
		undone(t, "a version", bytesByWords(s), fault(0))
	}
	for _, n := range []int{mostSkip + 1, 1<<32 + 1, math.MaxInt} {
		s.Config = api.Config{Version: 1, Skip: n, Store: 5}
		undone(t, "Skip", bytesByWords(s), fault(2))
	}
	for _, n := range []int{mostStore + 1, 1<<32 + 1, math.MaxInt} {
		s.Config = api.Config{Version: 2, Skip: mostSkip, Store: n}
		undone(t, "Store", bytesByWords(s), fault(5))
	}
}

// Two items where one may be: the schema refuses them, where their field begins.
func TestBytesOfTwoItems(t *testing.T) {
	d := newDrawer(936)
	b := bytesByWords(d.full(api.Config{Version: 1, Skip: 5, Store: 5}, 0))
	for _, field := range []struct{ at, item int }{{40, 69}, {111, 35}, {150, 74}, {265, 74}} {
		item := b[field.at+2 : field.at+2+field.item]
		two := slices.Concat(b[:field.at+1], []byte{byte(2 * field.item)}, item, item, b[field.at+2+field.item:])
		if 2*field.item > 127 { // the length needs a second byte
			two = slices.Concat(b[:field.at+1], []byte{byte(2*field.item&127 | 128), byte(2 * field.item >> 7)}, item, item, b[field.at+2+field.item:])
		}
		undone(t, "two items", two, wrap(api.PartState, &api.Fault{At: field.at, Why: api.ErrRange}))
	}
}

// Each state's bytes, cut at each place, with bytes behind them, and with each bit turned.
func TestBytesThatAreCutAndTurned(t *testing.T) {
	d := newDrawer(937)
	for what, s := range states(d) {
		b := bytesByWords(s)
		for n := range len(b) {
			if err := decides(t, what+", cut", b[:n]); err == nil {
				t.Fatalf("%s: the first %d bytes are a state", what, n)
			}
		}
		for _, more := range [][]byte{{0}, {1}, {0x70, 0}, {0x72, 0}, {0x6a, 0}, {0xff}, b} {
			if err := decides(t, what+", with more", slices.Concat(b, more)); err == nil {
				t.Fatalf("%s: with %x behind it is a state", what, more)
			}
		}
		for bit := range 8 * len(b) {
			if s.HasOwn && bit%11 > 0 { // the curve's work is dear
				continue
			}
			decides(t, what+", turned", turned(b, bit))
		}
	}
}

// One form: a number with bytes that it does not need, fields in another order, fields left out.
func TestBytesInOtherForms(t *testing.T) {
	alice, _ := sides(t, api.Config{Version: 1, Skip: 5, Store: 7})
	b := alice.s.Export()
	for what, other := range map[string][]byte{
		"a number in two bytes":    slices.Concat([]byte{8, 0x81, 0}, b[2:]),
		"a length in two bytes":    slices.Concat(b[:7], []byte{0xa0, 0}, b[8:]),
		"a list's in two bytes":    slices.Concat(b[:len(b)-1], []byte{0x80, 0}),
		"Skip ahead of Version":    slices.Concat(b[2:4], b[:2], b[4:]),
		"no Version":               b[2:],
		"no spares":                b[:len(b)-2],
		"no list of the own pair":  slices.Concat(b[:40], b[42:]),
		"an empty item":            slices.Concat(b[:40], []byte{0x2a, 1, 0}, b[42:]),
		"a turn of 2":              slices.Concat(b[:80], []byte{2}, b[81:]),
		"a key of 31 bytes":        slices.Concat(b[:7], []byte{31}, b[9:]),
		"a key of 33 bytes":        slices.Concat(b[:7], []byte{33}, b[7:]),
		"another wire type":        slices.Concat([]byte{0x0d, 1, 0, 0, 0}, b[2:]),
		"nothing":                  nil,
		"an envelope":              alice.sends(t, "hi", 1),
		"all of it twice":          slices.Concat(b, b),
		"only zeros":               make([]byte, 160),
		"Version alone":            b[:2],
		"a field of Prev as bytes": slices.Replace(slices.Clone(b), 117, 118, 0x52),
	} {
		if err := decides(t, what, other); err == nil {
			t.Errorf("%s is a state: %x", what, other)
		}
	}
	if b[79] != 0x38 || b[117] != 0x55 || b[40] != 0x2a {
		t.Fatalf("the places are others: %x", b)
	}
}
