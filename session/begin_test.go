package session_test

import (
	"math"
	"testing"

	"pawl/api"
	"pawl/curve"
	"pawl/session"
)

// P15.1 and P15.2

// beginning is Alice or Bob.
type beginning func(shared, headerA, headerB, last []byte, c api.Config) (*session.Session, error)

var beginnings = map[string]beginning{"Alice": session.Alice, "Bob": session.Bob}

// notBegun holds that there is no session, for this reason.
func notBegun(t *testing.T, what string, begin beginning, keys [4][]byte, c api.Config, want api.Errno) {
	t.Helper()
	s, err := begin(keys[0], keys[1], keys[2], keys[3], c)
	if s != nil || !sameError(err, wrap(api.PartArgs, want)) {
		t.Errorf("%s of keys of %d, %d, %d, %d bytes and %v: %v, %v, not %v", what, len(keys[0]), len(keys[1]), len(keys[2]), len(keys[3]), c, s, err, want)
	}
}

var wrongLengths = []int{0, 1, 16, 31, 33, 64, 256 + 32, 65536 + 32}

// wrongVersions are those that are not known, those among them that come to known ones if bits are lost.
var wrongVersions = []int{math.MinInt, math.MinInt + 1, -1<<32 + 1, -255, -2, -1, 0, 3, 4, 255, 257, 258, 1<<16 + 1, 1<<32 + 1, 1<<32 + 2, math.MaxInt}

// outside are numbers below 0 and above a bound, those among them that come to good ones if bits are lost.
func outside(most int) []int {
	return []int{math.MinInt, math.MinInt + 3, -1 << 32, -1<<32 + 3, -most, -1, most + 1, most + 2, 1 << 16, 1<<31 - 1, 1 << 31, 1 << 32, 1<<32 + 3, math.MaxInt}
}

func TestBeginningsOfKeys(t *testing.T) {
	d := newDrawer(900)
	keys := func() [4][]byte { return [4][]byte{d.bytes(32), d.bytes(32), d.bytes(32), d.bytes(32)} }
	bad := []api.Config{{Version: 3}, {Version: 1, Skip: -1}, {Version: 1, Store: 2001}, {}}
	for what, begin := range beginnings {
		for i := range 4 {
			for _, n := range wrongLengths {
				l := keys()
				l[i] = d.bytes(n)
				notBegun(t, what, begin, l, good, api.ErrSize)
				for _, c := range bad {
					notBegun(t, what, begin, l, c, api.ErrSize)
				}
				l[(i+1)%4] = d.bytes(wrongLengths[d.Intn(len(wrongLengths))])
				notBegun(t, what, begin, l, good, api.ErrSize)
			}
		}
		notBegun(t, what, begin, [4][]byte{}, good, api.ErrSize)
	}
}

func TestBeginningsOfConfigs(t *testing.T) {
	d := newDrawer(901)
	keys := [4][]byte{d.bytes(32), d.bytes(32), d.bytes(32), d.bytes(32)}
	for what, begin := range beginnings {
		for _, version := range wrongVersions {
			notBegun(t, what, begin, keys, api.Config{Version: version, Skip: 5, Store: 5}, api.ErrVersion)
			notBegun(t, what, begin, keys, api.Config{Version: version, Skip: -1, Store: 5}, api.ErrVersion)
			notBegun(t, what, begin, keys, api.Config{Version: version, Skip: 5, Store: 2001}, api.ErrVersion)
		}
		for _, version := range []int{1, 2} {
			for _, n := range outside(mostSkip) {
				notBegun(t, what, begin, keys, api.Config{Version: version, Skip: n, Store: 5}, api.ErrArg)
			}
			for _, n := range outside(mostStore) {
				notBegun(t, what, begin, keys, api.Config{Version: version, Skip: 5, Store: n}, api.ErrArg)
			}
		}
	}
}

// What a session begins with, whatever the keys are; a seed need not be clamped, and a public key may be weak.
func TestBeginnings(t *testing.T) {
	d := newDrawer(902)
	configs := []api.Config{{Version: 1}, {Version: 2}, {Version: 1, Skip: mostSkip, Store: mostStore}, {Version: 2, Skip: mostSkip}, {Version: 2, Store: mostStore}}
	for i := range 60 {
		c := api.Config{Version: 1 + d.Intn(2), Skip: d.Intn(1001), Store: d.Intn(2001)}
		if i < len(configs) {
			c = configs[i]
		}
		shared, headerA, headerB, last := d.key(), d.key(), d.key(), d.key()
		if i%10 == 0 {
			shared, headerA, headerB, last = api.Key{}, api.Key{}, api.Key{}, api.Key{}
		}
		a, err := session.Alice(shared[:], headerA[:], headerB[:], last[:], c)
		if err != nil || a == nil {
			t.Fatalf("Alice: %v, %v", a, err)
		}
		duo{a, &sideByWords{api.State{Config: c, Root: shared, Peer: last, HasPeer: true, Turn: true, NextSend: headerA, NextRecv: headerB}}}.stands(t, "Alice")
		b, err := session.Bob(shared[:], headerA[:], headerB[:], last[:], c)
		if err != nil || b == nil {
			t.Fatalf("Bob: %v, %v", b, err)
		}
		own := api.Pair{Private: curve.Clamp(last), Public: curve.Public(last)}
		duo{b, &sideByWords{api.State{Config: c, Root: shared, Own: own, HasOwn: true, NextSend: headerB, NextRecv: headerA}}}.stands(t, "Bob")
	}
}

// A session that no call made answers, whatever that is.
func TestZeroSession(t *testing.T) {
	var s session.Session
	s.State()
	s.Export()
	s.Forget(3)
	s.Send([]byte("a"), nil, seedOf(1))
	s.Receive(nil, nil)
	for version := 1; version <= 2; version++ {
		alice, _ := sides(t, api.Config{Version: version})
		s.Receive(alice.sends(t, "a", 1), []byte("x"))
		s.Receive(letter{version: version}.says("a"), []byte("x"))
	}
}
