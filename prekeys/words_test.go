package prekeys_test

import (
	"crypto/ed25519"
	"crypto/sha256"
	"encoding/binary"
	"encoding/hex"
	"errors"
	"fmt"
	"math/big"
	"math/rand"
	"slices"
	"strings"
	"testing"

	"pawl/api"
	"pawl/prekeys"
	"pawl/schema"
	"pawl/tree"
)

// What the chapter says, done as it is said: bytes put together by hand, signatures made and held by Go's own Ed25519, and a directory that keeps what was entered, stocked and given out alone, and goes through all of that whenever it is asked anything; and what several tests draw and hold against each other.

const (
	mostPeople  = 64
	mostDevices = 4
	mostOnces   = 100
	mostLeaves  = 1 << 16
)

var x, y, z, zero = api.Key{1}, api.Key{2}, api.Key{3}, api.Key{}

func nameByWords(s string) bool {
	return s != "" && len(s) <= 16 && strings.Trim(s, "abcdefghijklmnopqrstuvwxyz") == ""
}

// textByWords and packByWords are P23.1's bytes.
func textByWords(l api.Listing) []byte {
	if len(l.Name) > 4096 {
		return nil
	}
	gone := byte(0)
	if l.Gone {
		gone = 1
	}
	b := binary.AppendUvarint([]byte{0x0a}, uint64(len(l.Name)))
	b = append(append(b, l.Name...), 0x11)
	b = append(binary.LittleEndian.AppendUint64(b, uint64(l.Device)), 0x1a, 0x20)
	b = append(append(b, l.Identity[:]...), 0x22, 0x20)
	b = append(append(b, l.Signed[:]...), 0x2d)
	return append(binary.LittleEndian.AppendUint32(b, l.Number), 0x30, gone)
}

func packByWords(l api.Listing) []byte {
	b := textByWords(l)
	if b == nil {
		return nil
	}
	return slices.Concat(b, []byte{0x3a, 0x40}, l.Sig[:])
}

// signedByWords is what is signed.
func signedByWords(l api.Listing) []byte {
	return slices.Concat([]byte("pawl listing"), textByWords(l))
}

// parseByWords is Parse, by layer 8.
func parseByWords(t *testing.T, b []byte) (api.Listing, *api.Fault) {
	t.Helper()
	key := func(no int) api.Slot { return api.Slot{No: no, Kind: api.KBytes, Least: 32, Most: 32} }
	codec, e := schema.Compile([]api.Slot{
		{No: 1, Kind: api.KBytes, Most: 4096}, {No: 2, Kind: api.KFixed64, Most: 1<<64 - 1}, key(3), key(4),
		{No: 5, Kind: api.KFixed32, Most: 1<<32 - 1}, {No: 6, Kind: api.KFlag}, {No: 7, Kind: api.KBytes, Least: 64, Most: 64},
	})
	if e != api.OK {
		t.Fatalf("the schema: %v", e)
	}
	v, err := codec.Decode(b)
	var f *api.Fault
	if errors.As(err, &f) {
		return api.Listing{}, f
	}
	p := v.Parts
	return api.Listing{
		Name: string(p[0].Data), Device: int(int64(p[1].Num)), Identity: api.Key(p[2].Data), Signed: api.Key(p[3].Data),
		Number: uint32(p[4].Num), Gone: p[5].Num == 1, Sig: api.Signature(p[6].Data),
	}, nil
}

var prime = new(big.Int).Sub(new(big.Int).Lsh(big.NewInt(1), 255), big.NewInt(19))

func modP(n *big.Int) *big.Int { return n.Mod(n, prime) }

func whole(k api.Key) *big.Int {
	slices.Reverse(k[:])
	return new(big.Int).SetBytes(k[:])
}

func keyOf(n *big.Int) api.Key {
	var k api.Key
	n.FillBytes(k[:])
	slices.Reverse(k[:])
	return k
}

// over is (n + a) / (b + c n) modulo the prime; false, if nothing is divided by.
func over(n *big.Int, a, b, c int64) (*big.Int, bool) {
	below := new(big.Int).Mul(big.NewInt(c), n)
	below = modP(below.Add(below, big.NewInt(b)))
	if below.Sign() == 0 {
		return nil, false
	}
	above := new(big.Int).Add(n, big.NewInt(a))
	return modP(above.Mul(above, below.ModInverse(below, prime))), true
}

// smallNumbers are those of the points for which anybody could sign.
var smallNumbers = []api.Key{
	zero, {1},
	read("e0eb7a7c3b41b8ae1656e3faf19fc46ada098deb9c32b1fd866205165f49b800"),
	read("5f9c95bca3508c24b1d0b1559c83ef5b04445cc4581c8e86d8224eddd09f1157"),
}

// read is the key that hexadecimal digits say.
func read(digits string) api.Key {
	b, err := hex.DecodeString(digits)
	if err != nil {
		panic(err)
	}
	return api.Key(b)
}

// honourByWords is whether sign.Honour answers OK, by Go's own Ed25519: it takes the point of the number whose x is even.
func honourByWords(public api.Key, b []byte, s api.Signature) bool {
	u := whole(public)
	if u.Cmp(prime) >= 0 || slices.Contains(smallNumbers, public) {
		return false
	}
	y, there := over(u, -1, 1, 1)
	if !there {
		return false
	}
	point := keyOf(y)
	return ed25519.Verify(point[:], b, s[:]) // false too, if there is no x beside y
}

// checkByWords is P23.3.
func checkByWords(l api.Listing) api.Errno {
	switch {
	case !nameByWords(l.Name), l.Device < 1, l.Device > mostDevices:
		return api.ErrName
	case !honourByWords(l.Identity, signedByWords(l), l.Sig):
		return api.ErrSigned
	}
	return api.OK
}

// owner is somebody whose identity signs by Go's own Ed25519: a point with an even x, told by its number.
type owner struct {
	private  ed25519.PrivateKey
	identity api.Key
}

// ownerOf is the owner number n, always the same.
func ownerOf(n int) owner {
	for try := 0; ; try++ {
		seed := sha256.Sum256(fmt.Appendf(nil, "owner %d %d", n, try))
		private := ed25519.NewKeyFromSeed(seed[:])
		point := api.Key(private.Public().(ed25519.PublicKey))
		u, there := over(whole(point), 1, 1, -1)
		if there && point[31]&0x80 == 0 {
			return owner{private, keyOf(u)}
		}
	}
}

// sign is the listing with the owner's identity and signature.
func (o owner) sign(l api.Listing) api.Listing {
	l.Identity = o.identity
	l.Sig = api.Signature(ed25519.Sign(o.private, signedByWords(l)))
	return l
}

// ann and bob own the listings of most tests.
var ann, bob = ownerOf(1), ownerOf(2)

// line is a listing that its owner signed.
func (o owner) line(name string, device int, number uint32) api.Listing {
	return o.sign(api.Listing{Name: name, Device: device, Signed: api.Key{byte(device), byte(number), 0x77}, Number: number})
}

func (o owner) gone(name string, device int, number uint32) api.Listing {
	return o.sign(api.Listing{Name: name, Device: device, Number: number, Gone: true})
}

// stocked is a key for once that came, given that it was given out.
type stocked struct {
	name   string
	device int
	key    api.Key
	given  bool
}

// told is a directory by the words: what was entered, and all keys for once that came, in their order.
type told struct {
	listings []api.Listing
	onces    []stocked
}

// at is the place of a device's listing; -1, if there is none.
func (w *told) at(name string, device int) int {
	at := -1
	for i, l := range w.listings {
		if l.Name == name && l.Device == device {
			at = i
		}
	}
	return at
}

func (w *told) names() []string {
	var all []string
	for _, l := range w.listings {
		if !slices.Contains(all, l.Name) {
			all = append(all, l.Name)
		}
	}
	return all
}

// enter is P23.4's Enter.
func (w *told) enter(l api.Listing) (int, api.Errno) {
	if e := checkByWords(l); e != api.OK {
		return 0, e
	}
	for _, other := range w.listings {
		if other.Name == l.Name && other.Identity != l.Identity {
			return 0, api.ErrTaken
		}
	}
	at, names := w.at(l.Name, l.Device), w.names()
	switch {
	case at >= 0 && w.listings[at].Gone:
		return 0, api.ErrGone
	case at >= 0 && l.Number <= w.listings[at].Number:
		return 0, api.ErrStale
	case !slices.Contains(names, l.Name) && len(names) >= mostPeople, len(w.listings) >= mostLeaves:
		return 0, api.ErrLong
	}
	w.listings = append(w.listings, l)
	return len(w.listings) - 1, api.OK
}

// open is what Stock and Fetch look at first.
func (w *told) open(name string, device int) (int, api.Errno) {
	at := w.at(name, device)
	switch {
	case at < 0:
		return 0, api.ErrNobody
	case w.listings[at].Gone:
		return 0, api.ErrGone
	}
	return at, api.OK
}

// lying is where in onces the keys of a device are that lie ready, and how many ever came.
func (w *told) lying(name string, device int) (ready []int, came int) {
	for i, o := range w.onces {
		if o.name == name && o.device == device {
			came++
			if !o.given {
				ready = append(ready, i)
			}
		}
	}
	return ready, came
}

// stock is P23.5.
func (w *told) stock(name string, device int, onces []api.Key) api.Errno {
	if _, e := w.open(name, device); e != api.OK {
		return e
	}
	for i, key := range onces {
		if slices.Contains(onces[:i], key) || slices.Contains(w.onces, stocked{name, device, key, false}) || slices.Contains(w.onces, stocked{name, device, key, true}) {
			return api.ErrSpent
		}
	}
	ready, came := w.lying(name, device)
	if len(ready)+len(onces) > mostOnces || came+len(onces) > mostLeaves {
		return api.ErrLong
	}
	for _, key := range onces {
		w.onces = append(w.onces, stocked{name, device, key, false})
	}
	return api.OK
}

// fetch is P23.7.
func (w *told) fetch(name string, device int) (api.Offered, api.Errno) {
	at, e := w.open(name, device)
	if e != api.OK {
		return api.Offered{}, e
	}
	o := api.Offered{Listing: w.listings[at], At: at, Size: len(w.listings)}
	if ready, _ := w.lying(name, device); len(ready) > 0 {
		w.onces[ready[0]].given = true
		o.Once, o.HasOnce = w.onces[ready[0]].key, true
	}
	return o, api.OK
}

// log is that of the listings, by Go's own hash and layer 21.
func (w *told) log(t *testing.T) *tree.Log {
	t.Helper()
	var leaves []api.Key
	for _, l := range w.listings {
		leaves = append(leaves, leafByWords(l))
	}
	log, e := tree.From(leaves)
	if e != api.OK {
		t.Fatal(e)
	}
	return log
}

func leafByWords(l api.Listing) api.Key {
	return sha256.Sum256(slices.Concat([]byte{0}, packByWords(l)))
}

// checkDirectory holds all that a directory tells against the words, of these names and those that were entered.
func checkDirectory(t *testing.T, what string, d *prekeys.Directory, w *told, more ...string) {
	t.Helper()
	if d.Size() != len(w.listings) || !slices.Equal(d.Listings(), w.listings) {
		t.Fatalf("%s: %d listings, not %d, or others", what, d.Size(), len(w.listings))
	}
	for _, name := range append(w.names(), more...) {
		var devices []int
		for device := -1; device <= 6; device++ {
			checkDevice(t, what, d, w, name, device)
			if _, e := w.open(name, device); e == api.OK {
				devices = append(devices, device)
			}
		}
		if got := d.Devices(name); !slices.Equal(got, devices) {
			t.Fatalf("%s: Devices(%q): %v, not %v", what, name, got, devices)
		}
	}
	checkLog(t, what, d, w)
}

func checkDevice(t *testing.T, what string, d *prekeys.Directory, w *told, name string, device int) {
	t.Helper()
	var listing api.Listing
	var at, ready int
	e := api.ErrNobody
	if found := w.at(name, device); found >= 0 {
		lying, _ := w.lying(name, device)
		listing, at, ready, e = w.listings[found], found, len(lying), api.OK
	}
	if l, a, why := d.Find(name, device); l != listing || a != at || why != e {
		t.Fatalf("%s: Find(%q, %d): %v, %d, %v, not %d, %v", what, name, device, l, a, why, at, e)
	}
	if n, why := d.Ready(name, device); n != ready || why != e {
		t.Fatalf("%s: Ready(%q, %d): %d, %v, not %d, %v", what, name, device, n, why, ready, e)
	}
}

// checkLog holds Root, Path and Growth of some sizes against layer 21, wrong ones among them.
func checkLog(t *testing.T, what string, d *prekeys.Directory, w *told) {
	t.Helper()
	log, size := w.log(t), len(w.listings)
	for _, n := range []int{-1, 0, 1, size / 2, size - 1, size, size + 1, mostLeaves} {
		root, e := log.Root(n)
		if got, why := d.Root(n); got != root || why != e {
			t.Fatalf("%s: Root(%d): %x, %v, not %x, %v", what, n, got, why, root, e)
		}
		for _, m := range []int{-1, 0, 1, n / 3, n - 1, n, n + 1} {
			path, e := log.Path(m, n)
			if got, why := d.Path(m, n); !slices.Equal(got, path) || why != e {
				t.Fatalf("%s: Path(%d, %d): %x, %v, not %x, %v", what, m, n, got, why, path, e)
			}
			growth, e := log.Growth(m, n)
			if got, why := d.Growth(m, n); !slices.Equal(got, growth) || why != e {
				t.Fatalf("%s: Growth(%d, %d): %x, %v, not %x, %v", what, m, n, got, why, growth, e)
			}
		}
	}
}

// both is a directory and the same by the words.
type both struct {
	t *testing.T
	d *prekeys.Directory
	w *told
}

func newBoth(t *testing.T) *both {
	t.Helper()
	s := &both{t, prekeys.New(), &told{}}
	if s.d == nil {
		t.Fatal("New: nil")
	}
	return s
}

// of is a directory of these listings, all of which can be entered.
func of(t *testing.T, listings ...api.Listing) *both {
	t.Helper()
	s := newBoth(t)
	for i, l := range listings {
		s.enters(l, i, api.OK)
	}
	return s
}

// enter, stock and fetch make a call and hold its answer against the words.
func (s *both) enter(l api.Listing) api.Errno {
	s.t.Helper()
	at, e := s.w.enter(l)
	if got, why := s.d.Enter(l); got != at || why != e {
		s.t.Fatalf("Enter(%q, %d, number %d): %d, %v, not %d, %v", l.Name, l.Device, l.Number, got, why, at, e)
	}
	return e
}

func (s *both) stock(name string, device int, onces ...api.Key) api.Errno {
	s.t.Helper()
	e := s.w.stock(name, device, onces)
	if why := s.d.Stock(name, device, onces); why != e {
		s.t.Fatalf("Stock(%q, %d, %d keys): %v, not %v", name, device, len(onces), why, e)
	}
	return e
}

func (s *both) fetch(name string, device int) (api.Offered, api.Errno) {
	s.t.Helper()
	o, e := s.w.fetch(name, device)
	if got, why := s.d.Fetch(name, device); got != o || why != e {
		s.t.Fatalf("Fetch(%q, %d): %v, %v, not %v, %v", name, device, got, why, o, e)
	}
	return o, e
}

// enters, stocks and gives: the answer is just that, by the words too.
func (s *both) enters(l api.Listing, at int, e api.Errno) {
	s.t.Helper()
	if want, why := s.w.enter(l); want != at || why != e {
		s.t.Fatalf("by the words: %d, %v, not %d, %v", want, why, at, e)
	}
	if got, why := s.d.Enter(l); got != at || why != e {
		s.t.Fatalf("Enter(%q, %d, number %d): %d, %v, not %d, %v", l.Name, l.Device, l.Number, got, why, at, e)
	}
}

func (s *both) stocks(e api.Errno, name string, device int, onces ...api.Key) {
	s.t.Helper()
	if got := s.stock(name, device, onces...); got != e {
		s.t.Fatalf("Stock(%q, %d, %d keys): %v, not %v", name, device, len(onces), got, e)
	}
}

func (s *both) gives(name string, device int, once api.Key, has bool) {
	s.t.Helper()
	if o, e := s.fetch(name, device); e != api.OK || o.Once != once || o.HasOnce != has {
		s.t.Fatalf("Fetch(%q, %d): %v, %v, not %x", name, device, o, e, once)
	}
}

func (s *both) check(what string) {
	s.t.Helper()
	checkDirectory(s.t, what, s.d, s.w, "ann", "nobody", "", "Ann")
}

func drawnKey(r *rand.Rand) api.Key {
	var k api.Key
	r.Read(k[:])
	return k
}

// keys are n keys for once, counted from one on.
func keys(from, n int) []api.Key {
	var l []api.Key
	for i := range n {
		l = append(l, onceOf(from+i))
	}
	return l
}

func onceOf(n int) api.Key { return api.Key{byte(n), byte(n >> 8), byte(n >> 16), 31: 0x40} }

// turned is a key with one bit turned.
func turned(k api.Key, bit int) api.Key {
	k[bit/8] ^= 1 << (bit % 8)
	return k
}

// people are n names, in an order of their own.
func people(n int) []string {
	var l []string
	for i := range n {
		l = append(l, string([]byte{byte('a' + i*7%26), byte('a' + i/26), byte('a' + i*11%26)}))
	}
	return l
}
