package session_test

import (
	"slices"
	"testing"

	"pawl/api"
	"pawl/envelope"
)

// P15.4 and P15.11: what is refused, in which part, with which work.

// An extra that is too long is told ahead of whatever is wrong with the bytes.
func TestReceiveOfTheArguments(t *testing.T) {
	d := newDrawer(920)
	long := wrap(api.PartArgs, api.ErrLong)
	for version := 1; version <= 2; version++ {
		s := d.full(api.Config{Version: version, Skip: 3, Store: 9}, 5)
		x := from(t, s)
		right := byChain(s, 0)
		other := right
		other.version = 3 - version
		for _, b := range [][]byte{right.says("said"), other.says("said"), nil, {8, 3}, right.says("said")[:90], turned(right.says("said"), 900)} {
			for _, n := range []int{mostExtra + 1, mostExtra + 2, 1 << 17} {
				x.refuses(t, b, d.bytes(n), long, 0, 0)
			}
		}
		x.refuses(t, right.says("said"), d.bytes(mostExtra), wrap(api.PartBody, api.ErrBody), 2, 1)
		x.refuses(t, other.says("said"), d.bytes(mostExtra), wrap(api.PartEnvelope, api.ErrVersion), 0, 0)
		x.hears(t, right.says("said"), "said", 2, 1)
	}
}

// Bytes that are no envelope, with their places.
func TestReceiveOfNoEnvelope(t *testing.T) {
	d := newDrawer(921)
	x := from(t, d.full(api.Config{Version: 1, Skip: 3, Store: 9}, 5))
	right := byChain(x.w.s, 0).says("said")
	body := slices.Concat(right[:82], []byte{0x22, 88}, d.bytes(88))
	for _, one := range []struct {
		b   []byte
		at  int
		why api.Errno
	}{
		{nil, 0, api.ErrSlots},
		{[]byte{}, 0, api.ErrSlots},
		{[]byte{0x08}, 1, api.ErrCut},
		{[]byte{0x08, 1}, 2, api.ErrSlots},
		{[]byte{0x08, 0}, 0, api.ErrVersion},
		{[]byte{0x08, 3}, 0, api.ErrVersion},
		{[]byte{0x0a, 0}, 0, api.ErrKind},
		{[]byte{0x10, 1}, 0, api.ErrSlots},
		{[]byte{0x0b}, 0, api.ErrType},
		{right[:82], 82, api.ErrSlots},
		{append(slices.Clone(right), 0x28, 0), 164, api.ErrSlots},
		{append(slices.Clone(right), 0x20, 0), 164, api.ErrOrder},
		{body, 82, api.ErrParts}, // 72 bytes are no bucket of version 1
	} {
		_, want := envelope.Parse(one.b)
		if f, is := want.(*api.Fault); !is || *f != (api.Fault{At: one.at, Why: one.why}) {
			t.Fatalf("Parse(%x): %v, not %d, %v", one.b, want, one.at, one.why)
		}
		x.refuses(t, one.b, []byte("x"), wrap(api.PartEnvelope, &api.Fault{At: one.at, Why: one.why}), 0, 0)
	}
	x.hears(t, right, "said", 2, 1)
}

// An envelope that is cut at any place is none, and neither is one with bytes behind it.
func TestReceiveOfWhatIsCut(t *testing.T) {
	alice, bob := sides(t, good)
	b := alice.sends(t, "hi", 1)
	none := func(b []byte) {
		t.Helper()
		got, err := bob.receive(t, b, []byte("x"))
		w, is := err.(*api.Wrap)
		if !is || w.Part != api.PartEnvelope || got.Work != (api.Work{}) {
			t.Fatalf("of %d bytes: %v, %v", len(b), got, err)
		}
		if _, is := w.Err.(*api.Fault); !is {
			t.Fatalf("of %d bytes: no place: %v", len(b), err)
		}
	}
	for n := range len(b) {
		none(b[:n])
	}
	for _, more := range [][]byte{{0}, {8}, {8, 1}, {0x28, 0}, {0xff}, b} {
		none(slices.Concat(b, more))
	}
	bob.hears(t, b, "hi", 1, 1)
}

// partsAt are where an envelope's parts begin: the nonce, the header's box, the body's field, its box.
const (
	nonceAt  = 4
	headerAt = 22
	bodyAt   = 82
	boxAt    = 84
)

// One bit turned, at each place and on each way that a header can go: where it stands tells the part.
func TestReceiveOfWhatIsTurned(t *testing.T) {
	d := newDrawer(922)
	for version := 1; version <= 2; version++ {
		s := d.full(api.Config{Version: version, Skip: 3, Store: 9}, 2)
		x := from(t, s)
		ways := []struct {
			b      []byte
			trials int
			steps  int
		}{
			{bySpare(s, 1).says("said"), 1, 0},
			{byChain(s, 1).says("said"), 2, 2},
			{byTurn(s, d.pair().Public, 6, 1).says("said"), 3, 3},
		}
		for _, way := range ways {
			for bit := range 8 * len(way.b) {
				if way.trials == 3 && bit%5 > 0 { // the curve's work is dear
					continue
				}
				b := turned(way.b, bit)
				switch at := bit / 8; {
				case at >= boxAt:
					x.refuses(t, b, []byte("x"), wrap(api.PartBody, api.ErrBody), way.trials, way.steps)
				case at >= headerAt && at < bodyAt, at >= nonceAt && at < headerAt-2:
					x.refuses(t, b, []byte("x"), wrap(api.PartHeader, api.ErrHeader), 3, 0)
				default:
					got, err := x.receive(t, b, []byte("x"))
					w, is := err.(*api.Wrap)
					if !is || w.Part != api.PartEnvelope || got.Work != (api.Work{}) {
						t.Fatalf("the bit %d turned: %v, %v", bit, got, err)
					}
				}
			}
			from(t, s).hears(t, way.b, "said", way.trials, way.steps)
		}
	}
}

// The other version's envelopes are whole, but not the session's.
func TestReceiveOfTheOtherVersion(t *testing.T) {
	for version := 1; version <= 2; version++ {
		alice, _ := sides(t, api.Config{Version: version, Skip: 3, Store: 3})
		_, bob := sides(t, api.Config{Version: 3 - version, Skip: 3, Store: 3})
		for _, b := range alice.sendsAll(t, 3, 1) {
			bob.refuses(t, b, []byte("x"), wrap(api.PartEnvelope, api.ErrVersion), 0, 0)
			b[1] = byte(3 - version) // the boxes answer for the version
			bob.refuses(t, b, []byte("x"), wrap(api.PartHeader, api.ErrHeader), 1, 0)
		}
	}
}

// refusal is a letter, and how it is refused by a session with a state of its own.
type refusal struct {
	what   string
	s      api.State
	l      letter
	part   int
	why    api.Errno
	trials int
}

// refusals are all that the ratchet refuses by the header alone.
func refusals(d drawer) []refusal {
	c := api.Config{Version: 1, Skip: 3, Store: 4}
	s := d.full(c, 2)
	stranger := byChain(s, 0)
	stranger.under = d.key()
	gone := byChain(s, 0)
	gone.under, gone.header.N = s.Spares[0].Header, 50
	old := byChain(s, 0)
	old.header.N = s.RecvN - 1
	end := copied(s)
	end.RecvN = mostCount
	atEnd := letter{1, end.RecvHeader, api.Header{N: mostCount}, d.key()}
	crowded := d.full(c, 4)
	twice := copied(s)
	twice.Spares[1].Header, twice.Spares[1].N = s.RecvHeader, s.RecvN+1
	fresh := d.pair().Public
	alone := api.State{Config: c, Root: d.key(), Peer: d.key(), HasPeer: true, Turn: true, NextSend: d.key(), NextRecv: d.key()}
	return []refusal{
		{"a stranger's", s, stranger, api.PartHeader, api.ErrHeader, 3},
		{"one of a chain that is gone", s, gone, api.PartRatchet, api.ErrOld, 1},
		{"one that lies behind", s, old, api.PartRatchet, api.ErrOld, 2},
		{"one at the end of the counter", end, atEnd, api.PartRatchet, api.ErrExhausted, 2},
		{"one too far ahead", s, byChain(s, 4), api.PartRatchet, api.ErrSkip, 2},
		{"one for whose gap there is no room", s, byChain(s, 3), api.PartRatchet, api.ErrStore, 2},
		{"one whose gap is no gap", twice, byChain(twice, 3), api.PartRatchet, api.ErrTwice, 2},
		{"a new chain's too far ahead", s, byTurn(s, fresh, 5, 4), api.PartRatchet, api.ErrSkip, 3},
		{"a new chain's too far behind the last one", s, byTurn(s, fresh, 9, 0), api.PartRatchet, api.ErrSkip, 3},
		{"a new chain's for whose gap there is no room", crowded, byTurn(crowded, fresh, 5, 1), api.PartRatchet, api.ErrStore, 3},
		{"a new chain's of a weak key", s, byTurn(s, api.Key{1}, 5, 0), api.PartRatchet, api.ErrWeak, 3},
		{"a new chain's to one who has no pair", alone, byTurn(alone, fresh, 0, 0), api.PartRatchet, api.ErrState, 1},
	}
}

func TestReceiveOfTheRatchet(t *testing.T) {
	d := newDrawer(923)
	for _, r := range refusals(d) {
		t.Run(r.what, func(t *testing.T) {
			x := from(t, r.s)
			x.refuses(t, r.l.says("said"), []byte("x"), wrap(r.part, r.why), r.trials, 0)
			x.refuses(t, r.l.says("said"), nil, wrap(r.part, r.why), r.trials, 0)                  // ahead of the body
			x.refuses(t, r.l.bytes(make([]byte, 128), nil), nil, wrap(r.part, r.why), r.trials, 0) // and of its padding
		})
	}
	s := d.full(good, 2)
	l := byChain(s, 0)
	body, _ := envelope.Pad(2, []byte("said"))
	head := envelope.PackHeader(l.header)
	for _, i := range []int{0, 1, 34, 39} { // a header that opens and says nothing
		from(t, s).refuses(t, l.bytesOf(turned(head, 8*i), body, []byte("x")), []byte("x"), wrap(api.PartHeader, api.ErrHeader), 2, 0)
	}
	from(t, s).hears(t, l.bytesOf(head, body, []byte("x")), "said", 2, 1)
}

// wrongBodies are of a bucket's length and no body, in that version.
func wrongBodies(version int) map[string][]byte {
	pad := func(n, size int, change ...int) []byte {
		b := make([]byte, size)
		b[0], b[1], b[2], b[3] = byte(n), byte(n>>8), byte(n>>16), byte(n>>24)
		for _, at := range change {
			b[at] = 1
		}
		return b
	}
	all := map[string][]byte{
		"a bucket too great for no bytes":  pad(0, 128),
		"and for some":                     pad(60, 128),
		"one byte more than there is room": pad(61, 64),
		"a number beyond all bounds":       pad(1<<31+5, 64),
		"and one whose high bytes count":   pad(1<<16+5, 64),
		"the last byte is not 0":           pad(2, 64, 63),
		"the first byte behind is not 0":   pad(2, 64, 6),
	}
	if version == 2 {
		all["the other version's bucket"] = pad(61, 128)
	}
	return all
}

// A body that opens and whose padding is wrong: the work is told, nothing is changed, and the message that has that number is still heard.
func TestReceiveOfWrongPadding(t *testing.T) {
	d := newDrawer(924)
	padding := wrap(api.PartPadding, api.ErrPadding)
	for version := 1; version <= 2; version++ {
		s := d.full(api.Config{Version: version, Skip: 3, Store: 9}, 3)
		for what, body := range wrongBodies(version) {
			t.Run(what, func(t *testing.T) {
				x := from(t, s)
				spare, chain, turn := bySpare(s, 1), byChain(s, 2), byTurn(s, d.pair().Public, 7, 1)
				x.refuses(t, spare.bytes(body, []byte("x")), []byte("x"), padding, 1, 0)
				x.refuses(t, chain.bytes(body, []byte("x")), []byte("x"), padding, 2, 3)
				x.refuses(t, turn.bytes(body, []byte("x")), []byte("x"), padding, 3, 4)
				x.refuses(t, turn.bytes(body, []byte("x")), nil, wrap(api.PartBody, api.ErrBody), 3, 4)
				x.hears(t, spare.says("said"), "said", 1, 0)
				x.hears(t, chain.says("said"), "said", 2, 3)
			})
		}
		x := from(t, s)
		turn := byTurn(s, d.pair().Public, 7, 1)
		x.refuses(t, turn.bytes(make([]byte, 128), nil), nil, padding, 3, 4)
		x.hears(t, turn.says("said"), "said", 3, 4)
		x.sends(t, "and it goes on", 1)
	}
}

// P4: drawn calls one behind the other, good and bad ones, held against the words.
func TestDrawnTalks(t *testing.T) {
	d := newDrawer(925)
	parts := map[int]int{}
	count := func(err error) {
		if w, is := err.(*api.Wrap); is {
			parts[w.Part]++
		} else {
			parts[0]++
		}
	}
	for run := range 24 {
		alice, bob := sides(t, api.Config{Version: 1 + run%2, Skip: d.Intn(5), Store: d.Intn(7)})
		var sent [2][][]byte
		for range 70 {
			me := d.Intn(2)
			x := []duo{alice, bob}[me]
			switch d.Intn(8) {
			case 0, 1, 2:
				b, err := x.send(t, d.bytes(d.Intn(130)), nil, d.bytes(32-d.Intn(9)/8))
				if err == nil {
					sent[me] = append(sent[me], b)
				}
				count(err)
			case 3, 4, 5, 6:
				if l := sent[1-me]; len(l) > 0 {
					b := l[max(0, len(l)-1-d.Intn(6))]
					if d.Intn(4) == 0 {
						b = turned(b, d.Intn(8*len(b)))
					}
					_, err := x.receive(t, b, nil)
					count(err)
				}
			case 7:
				x.forget(t, d.Intn(6)-3)
			}
		}
	}
	for part, least := range map[int]int{0: 300, api.PartArgs: 5, api.PartEnvelope: 5, api.PartHeader: 20, api.PartRatchet: 50, api.PartBody: 20} {
		if parts[part] < least {
			t.Errorf("the part %d came %d times", part, parts[part])
		}
	}
}

// P15.5
func TestForget(t *testing.T) {
	d := newDrawer(926)
	for _, n := range []int{-1 << 62, -1, 0, 1, 2, 5, 8, 9, 10, 1 << 32, 1<<62 + 1} {
		s := d.full(good, 9)
		x := from(t, s)
		gone := x.forget(t, n)
		if want := min(max(n, 0), 9); gone != want {
			t.Errorf("Forget(%d): %d, not %d", n, gone, want)
		}
		for i := range s.Spares {
			b := bySpare(s, i).says("late")
			got, err := x.receive(t, b, []byte("x"))
			if heard := err == nil && string(got.Plain) == "late"; heard != (i >= gone) {
				t.Errorf("Forget(%d): the spare %d: %v, %v", n, i, got, err)
			}
		}
		if again := x.forget(t, 9); again != 0 {
			t.Errorf("%d spares are left", again)
		}
	}
}
