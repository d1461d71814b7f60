package agree_test

import (
	"bytes"
	"crypto/ecdh"
	"crypto/hkdf"
	"crypto/sha256"
	"encoding/hex"
	"errors"
	"fmt"
	"math/big"
	"math/rand"
	"slices"
	"strings"
	"testing"

	"pawl/api"
	"pawl/schema"
)

// What the chapter says, done as it is said, by Go's own library (and by layer 8, where the words name it); and what several tests draw and hold against each other.

const mostRounds = 6000

// privateByWords takes any 32 bytes: the library clamps where it reckons.
func privateByWords(k api.Key) *ecdh.PrivateKey {
	p, err := ecdh.X25519().NewPrivateKey(k[:])
	if err != nil {
		panic(err)
	}
	return p
}

func publicByWords(k api.Key) api.Key { return api.Key(privateByWords(k).PublicKey().Bytes()) }

// sharedByWords is what two keys share; false, if it is weak, which is the one thing that the library refuses.
func sharedByWords(k, u api.Key) (api.Key, bool) {
	p, err := ecdh.X25519().NewPublicKey(u[:])
	if err != nil {
		panic(err)
	}
	b, err := privateByWords(k).ECDH(p)
	if err != nil {
		return api.Key{}, false
	}
	return api.Key(b), true
}

// pairByWords is what curve.Pair gives.
func pairByWords(seed api.Key) api.Pair {
	private := seed
	private[0] &= 248
	private[31] = private[31]&127 | 64
	return api.Pair{Private: private, Public: publicByWords(seed)}
}

// two is a private key and a public one that make one of the keys d1 ..
type two struct{ private, public api.Key }

// secretsByWords are the secrets of d1 .., with an extra of two keys.
func secretsByWords(first, second api.Key, all ...two) (api.Secrets, api.Errno) {
	secret := bytes.Repeat([]byte{0xff}, 32)
	for _, x := range all {
		d, strong := sharedByWords(x.private, x.public)
		if !strong {
			return api.Secrets{}, api.ErrWeak
		}
		secret = append(secret, d[:]...)
	}
	b, err := hkdf.Key(sha256.New, secret, make([]byte, 32), "pawl agree", 96)
	if err != nil {
		panic(err)
	}
	return api.Secrets{Shared: api.Key(b[:32]), HeaderA: api.Key(b[32:64]), HeaderB: api.Key(b[64:]), Extra: slices.Concat(first[:], second[:])}, api.OK
}

func canBeByWords(b api.Bundle) bool { return b.HasOnce || b.Once == api.Key{} }

// startByWords is P14.3, answerByWords P14.4.
func startByWords(own, fresh api.Pair, b api.Bundle) (api.Secrets, api.Errno) {
	if !canBeByWords(b) {
		return api.Secrets{}, api.ErrBundle
	}
	all := []two{{own.Private, b.Signed}, {fresh.Private, b.Identity}, {fresh.Private, b.Signed}}
	if b.HasOnce {
		all = append(all, two{fresh.Private, b.Once})
	}
	return secretsByWords(own.Public, b.Identity, all...)
}

func answerByWords(own, signed, once api.Pair, hasOnce bool, peer, fresh api.Key) (api.Secrets, api.Errno) {
	all := []two{{signed.Private, peer}, {own.Private, fresh}, {signed.Private, fresh}}
	if hasOnce {
		all = append(all, two{once.Private, fresh})
	}
	return secretsByWords(peer, own.Public, all...)
}

// packByWords is a bundle's bytes, field by field.
func packByWords(b api.Bundle) []byte {
	flag, once := byte(0), make([]byte, 32)
	if b.HasOnce {
		flag, once = 1, b.Once[:]
	}
	return slices.Concat([]byte{0x0a, 0x20}, b.Identity[:], []byte{0x12, 0x20}, b.Signed[:], []byte{0x18, flag, 0x22, 0x20}, once)
}

// parseByWords is Parse of P14.2.
func parseByWords(t *testing.T, b []byte) (api.Bundle, *api.Fault) {
	t.Helper()
	codec, e := schema.Compile([]api.Slot{{No: 1, Kind: api.KBytes, Least: 32, Most: 32}, {No: 2, Kind: api.KBytes, Least: 32, Most: 32}, {No: 3, Kind: api.KFlag}, {No: 4, Kind: api.KBytes, Least: 32, Most: 32}})
	if e != api.OK {
		t.Fatalf("the schema: %v", e)
	}
	v, err := codec.Decode(b)
	if err != nil {
		var f *api.Fault
		if !errors.As(err, &f) {
			t.Fatalf("Decode: %v", err)
		}
		return api.Bundle{}, f
	}
	out := api.Bundle{Identity: api.Key(v.Parts[0].Data), Signed: api.Key(v.Parts[1].Data), HasOnce: v.Parts[2].Num == 1, Once: api.Key(v.Parts[3].Data)}
	if !canBeByWords(out) {
		return api.Bundle{}, &api.Fault{At: 70, Why: api.ErrBundle}
	}
	return out, nil
}

// digitsByWords are the six groups of a key.
func digitsByWords(k api.Key, rounds int) []string {
	h := sha256.Sum256(append([]byte("pawl safety"), k[:]...))
	for i := 1; i < rounds; i++ {
		h = sha256.Sum256(append(h[:], k[:]...))
	}
	var out []string
	for at := 0; at < 30; at += 5 {
		n := new(big.Int).SetBytes(h[at : at+5])
		out = append(out, fmt.Sprintf("%05d", n.Mod(n, big.NewInt(100000)).Int64()))
	}
	return out
}

// safetyByWords is P14.5.
func safetyByWords(a, b api.Key, rounds int) (string, api.Errno) {
	if rounds < 1 || rounds > mostRounds {
		return "", api.ErrArg
	}
	keys := []string{string(a[:]), string(b[:])}
	slices.Sort(keys)
	var groups []string
	for _, k := range keys {
		groups = append(groups, digitsByWords(api.Key([]byte(k)), rounds)...)
	}
	return strings.Join(groups, " "), api.OK
}

// same takes nil and empty lists as alike.
func same(a, b api.Secrets) bool {
	return a.Shared == b.Shared && a.HeaderA == b.HeaderA && a.HeaderB == b.HeaderB && bytes.Equal(a.Extra, b.Extra)
}

// none: secrets that stand beside an error.
func none(s api.Secrets) bool { return same(s, api.Secrets{}) }

// copied shares no list with s.
func copied(s api.Secrets) api.Secrets {
	s.Extra = slices.Clone(s.Extra)
	return s
}

// un reads hexadecimal digits, blanks among them.
func un(s string) []byte {
	b, err := hex.DecodeString(strings.ReplaceAll(s, " ", ""))
	if err != nil {
		panic(err)
	}
	return b
}

// weak are the keys that say a number of which nothing secret comes: 0, 1, -1 and the two of order 8, those that say one of them in another way too, and all of these with the bit that does not count.
func weak() []api.Key {
	var all []api.Key
	for _, s := range []string{
		"0000000000000000000000000000000000000000000000000000000000000000",
		"0100000000000000000000000000000000000000000000000000000000000000",
		"ecffffffffffffffffffffffffffffffffffffffffffffffffffffffffffff7f",
		"edffffffffffffffffffffffffffffffffffffffffffffffffffffffffffff7f",
		"eeffffffffffffffffffffffffffffffffffffffffffffffffffffffffffff7f",
		"e0eb7a7c3b41b8ae1656e3faf19fc46ada098deb9c32b1fd866205165f49b800",
		"5f9c95bca3508c24b1d0b1559c83ef5b04445cc4581c8e86d8224eddd09f1157",
	} {
		k := api.Key(un(s))
		all = append(all, k)
		k[31] |= 0x80
		all = append(all, k)
	}
	return all
}

// repeated is a key of bytes that are all alike.
func repeated(b byte) api.Key { return api.Key(bytes.Repeat([]byte{b}, 32)) }

// counted is a key of bytes that count up.
func counted(first byte) api.Key {
	var k api.Key
	for i := range k {
		k[i] = first + byte(i)
	}
	return k
}

type drawer struct{ *rand.Rand }

func newDrawer(seed int64) drawer { return drawer{rand.New(rand.NewSource(seed))} }

func (d drawer) key() api.Key {
	var k api.Key
	d.Read(k[:])
	return k
}

// pair is one of a seed; odd is two keys of which neither gives the other, the private one not clamped.
func (d drawer) pair() api.Pair { return pairByWords(d.key()) }

func (d drawer) odd() api.Pair {
	p := api.Pair{Private: d.key(), Public: d.key()}
	p.Private[0] |= 1
	p.Private[31] |= 0x80
	return p
}

// either is the one or the other.
func (d drawer) either() api.Pair {
	if d.Intn(2) == 0 {
		return d.pair()
	}
	return d.odd()
}

// mixed is a public key: one of a pair, any bytes, now and then a weak one.
func (d drawer) mixed() api.Key {
	switch d.Intn(12) {
	case 0:
		all := weak()
		return all[d.Intn(len(all))]
	case 1, 2, 3, 4:
		return d.key()
	}
	return d.pair().Public
}

// bundle is one that can be.
func (d drawer) bundle(hasOnce bool) api.Bundle {
	b := api.Bundle{Identity: d.key(), Signed: d.key(), HasOnce: hasOnce}
	if hasOnce {
		b.Once = d.key()
	}
	return b
}
