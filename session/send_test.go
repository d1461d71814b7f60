package session_test

import (
	"testing"

	"pawl/api"
	"pawl/envelope"
)

// P15.3 and P15.12

// The three sizes, each by itself, at its bound and beyond it, and two at once; with the turn and without it.
func TestSendOfSizes(t *testing.T) {
	d := newDrawer(910)
	s := d.full(good, 2)
	s.Turn = true
	turn := from(t, s)
	s.Turn = false
	s.SendN = mostCount // refuses what nothing ahead of it refuses
	none := from(t, s)
	_, bob := sides(t, good)
	long, longExtra := d.bytes(mostPlain+1), d.bytes(mostExtra+1)
	padding, args, size := wrap(api.PartPadding, api.ErrLong), wrap(api.PartArgs, api.ErrLong), wrap(api.PartArgs, api.ErrSize)
	for _, x := range []duo{turn, none, bob} {
		for _, n := range append(wrongLengths, 32) {
			seed := d.bytes(n)
			x.silent(t, long, nil, seed, padding)
			x.silent(t, long, longExtra, seed, padding)
			x.silent(t, nil, longExtra, seed, args)
			x.silent(t, []byte("a"), d.bytes(1<<17), seed, args)
		}
		x.silent(t, d.bytes(1<<21), nil, seedOf(1), padding)
	}
	for _, n := range wrongLengths {
		turn.silent(t, nil, nil, d.bytes(n), size)
		turn.silent(t, []byte("a"), longExtra[1:], d.bytes(n), size)
		none.silent(t, nil, longExtra[1:], d.bytes(n), wrap(api.PartRatchet, api.ErrExhausted))
		bob.silent(t, nil, longExtra[1:], d.bytes(n), wrap(api.PartRatchet, api.ErrSilent))
	}
	turn.silent(t, long[1:], nil, nil, size)
	bob.silent(t, long[1:], longExtra[1:], nil, wrap(api.PartRatchet, api.ErrSilent))
}

// At the bounds it is sent, and heard.
func TestSendAtTheBounds(t *testing.T) {
	d := newDrawer(911)
	for version := 1; version <= 2; version++ {
		alice, bob := sides(t, api.Config{Version: version, Skip: 3, Store: 3})
		plain, extra := d.bytes(mostPlain), d.bytes(mostExtra)
		b, err := alice.send(t, plain, extra, seedOf(1))
		if n, _ := envelope.Length(version, mostPlain); err != nil || len(b) != n {
			t.Fatalf("version %d: %d bytes, %v", version, len(b), err)
		}
		bob.refuses(t, b, append(extra, 0), wrap(api.PartArgs, api.ErrLong), 0, 0)
		if got, err := bob.receive(t, b, extra); err != nil || string(got.Plain) != string(plain) {
			t.Fatalf("version %d: %d bytes, %v", version, len(got.Plain), err)
		}
	}
}

// What the ratchet refuses behind the sizes.
func TestSendOfTheRatchet(t *testing.T) {
	d := newDrawer(912)
	_, bob := sides(t, good)
	for _, n := range append(wrongLengths, 32) {
		bob.silent(t, []byte("no"), nil, d.bytes(n), wrap(api.PartRatchet, api.ErrSilent))
	}
	for _, first := range []byte{0, 1} { // public keys that give nothing secret
		s := d.full(good, 2)
		s.Peer, s.Turn = api.Key{first}, true
		from(t, s).silent(t, []byte("no"), nil, seedOf(1), wrap(api.PartRatchet, api.ErrWeak))
		from(t, s).silent(t, []byte("no"), nil, seedOf(1)[:31], wrap(api.PartArgs, api.ErrSize))
		s.Turn = false
		from(t, s).sends(t, "yes", 1)
	}
	s := d.full(good, 2)
	s.SendN = mostCount
	for _, n := range append(wrongLengths, 32) {
		from(t, s).silent(t, []byte("no"), nil, d.bytes(n), wrap(api.PartRatchet, api.ErrExhausted))
	}
	s.Turn = true
	from(t, s).sends(t, "yes", 1)
	s.Turn, s.SendN = false, mostCount-1
	x := from(t, s)
	x.sends(t, "the last one", 1)
	x.silent(t, []byte("no"), nil, seedOf(1), wrap(api.PartRatchet, api.ErrExhausted))
}

// A refusal leaves no trace in what is sent behind it.
func TestSendBehindRefusals(t *testing.T) {
	d := newDrawer(913)
	s := d.full(good, 2)
	s.Turn = true
	x, y := from(t, s), from(t, s)
	x.silent(t, nil, nil, d.bytes(31), wrap(api.PartArgs, api.ErrSize))
	x.silent(t, nil, d.bytes(mostExtra+1), d.bytes(32), wrap(api.PartArgs, api.ErrLong))
	if a, b := x.sends(t, "a", 1), y.sends(t, "a", 1); string(a) != string(b) {
		t.Error("another envelope behind refusals")
	}
	x.silent(t, d.bytes(mostPlain+1), nil, nil, wrap(api.PartPadding, api.ErrLong))
	if a, b := x.sends(t, "b", 1), y.sends(t, "b", 1); string(a) != string(b) {
		t.Error("another envelope behind refusals")
	}
}

// Without the turn the seed is not looked at; with it, it decides.
func TestSendOfSeeds(t *testing.T) {
	d := newDrawer(914)
	s := d.full(good, 0)
	for _, turn := range []bool{false, true} {
		s.Turn = turn
		one, _ := from(t, s).send(t, []byte("a"), nil, seedOf(1))
		other, _ := from(t, s).send(t, []byte("a"), nil, seedOf(2))
		if alike := string(one) == string(other); alike == turn {
			t.Errorf("turn %v: alike %v", turn, alike)
		}
	}
	s.Turn = false
	for _, n := range wrongLengths {
		if _, err := from(t, s).send(t, []byte("a"), nil, d.bytes(n)); err != nil {
			t.Errorf("a seed of %d bytes, not looked at: %v", n, err)
		}
	}
}

// bucketEnds are how many bytes the greatest plain text of each bucket has, up to a bound.
func bucketEnds(version, most int) []int {
	var ends []int
	for e := range 20 {
		for m := 8; m < 16; m++ {
			if n := m<<(e+3) - 4; (version == 2 || m == 8) && n <= most {
				ends = append(ends, n)
			}
		}
	}
	return ends
}

// P15.12: around each bucket's end, whatever keys, extra and texts there are.
func TestSendTellsNothingByLengths(t *testing.T) {
	d := newDrawer(915)
	for version := 1; version <= 2; version++ {
		for _, end := range bucketEnds(version, 70000) {
			x := from(t, d.full(api.Config{Version: version, Skip: 3, Store: 5}, d.Intn(6)))
			length := func(n int) int {
				b, err := x.send(t, d.bytes(n), d.bytes(d.Intn(100)), nil)
				if want, _ := envelope.Length(version, n); err != nil || len(b) != want {
					t.Fatalf("version %d, %d bytes: %d, %v, not %d", version, n, len(b), err, want)
				}
				return len(b)
			}
			ahead, at, behind := length(end-1), length(end), length(end+1)
			if ahead != at || behind <= at {
				t.Fatalf("version %d, around %d bytes: %d, %d, %d", version, end, ahead, at, behind)
			}
		}
	}
}

// All plain texts of one bucket have one length, by the words' own numbers.
func TestSendOfOneBucket(t *testing.T) {
	d := newDrawer(916)
	for version, ends := range map[int][]int{1: {60, 124, 252}, 2: {60, 68, 76, 84, 92, 100, 108, 116, 124, 140}} {
		alice, _ := sides(t, api.Config{Version: version})
		alice.sends(t, "first", 1)
		n := 0
		for _, end := range ends {
			box := end + 4 + 16
			want := 83 + 1 + box // two bytes of the version, 18 of the nonce, 62 of the header, one of number and type, one of length
			if box > 127 {
				want++
			}
			for ; n <= end; n++ {
				if b, err := alice.s.Send(d.bytes(n), d.bytes(n%5), nil); err != nil || len(b) != want {
					t.Fatalf("version %d, %d bytes: %d, %v, not %d", version, n, len(b), err, want)
				}
			}
		}
	}
}
