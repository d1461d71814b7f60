package chain_test

import (
	"bytes"
	"slices"
	"testing"

	"pawl/api"
	"pawl/chain"
	"pawl/mac"
)

// known are the makings of three keys, reckoned apart; the secret is that of the bytes 20 to 3f.
var known = []struct{ key, next, message, root, forMessage string }{
	{
		"0000000000000000000000000000000000000000000000000000000000000000",
		"4ee7be0c7872360ca67414608081e9bd60fd580a7bbd209701d2a5a0b4316d0d",
		"3d7afb663124ecbf2c953f863d4fc8796eeb2d372b64aad58697ec5264649cdb",
		"a5e4dca066c2c189c41ff7a4194c6dd4ff9fc9fc8474f81fa4045e2f00551e84" + "44134cb20bb9edc1d61e99f701e4fb11a7c2431c5b38efd9a3eb3e1efc642d5a" + "327c27a5b3f4d669efcd503de5331eb8f66c3e0866a89808838c358d06b9f957",
		"c9e76f36f3a04843b249b8e019083da781bb29849b0299f9cc8b3c488ff56e90" + "7bc72f6290ed872159007040f711f527",
	},
	{
		"000102030405060708090a0b0c0d0e0f101112131415161718191a1b1c1d1e1f",
		"4304c22c84a53755ab08ead8d97a8d429be5efa480682d7ad1da27f73e1fbe1d",
		"9b4c8120a4823a95f47cde17a244f4507244ee6e3957d1fab9fa29b44d3829b7",
		"aeb05182cc7bffb67aca4d243442fb5b5fca0869f3b234f7b6b4e6df827b3eb5" + "69c3ac55f129af65da48b469c4f7386abfb6ca50cdde2656884151afbbfd3496" + "75266887ccfde2c4573e9e37a7d01adb15a16ebe769beb93946a3e7524796422",
		"2eb7dac5e8aca448af5b4f9637bf3e78e75344711281686399d677eed6196efa" + "68256274cb0f0f5f6d284df7ffc6db6e",
	},
	{
		"ffffffffffffffffffffffffffffffffffffffffffffffffffffffffffffffff",
		"f21767e18ea6050576c7222650864a19ed941c938265abd255ac79beefa04546",
		"85d3b07ddafe78925cb78c64e84fae54c2842034d0b88cc6d69fb8d106e3ffc8",
		"84a77caa208fd79d2b5cb48320259aad4c5e3885ae59913c8471301aa29c6015" + "78f69556e8b8c657f514e8e15b469166c27b2af88fd7315d17e16f69a471be71" + "4f8224d2d1cf709db958b4c0fa274fce6983a5b975c50e40e4671054378e1de2",
		"d9c3f307085f309e284d45bda14bc5ebe39843fe0f768afed80b3a3c8040ccc4" + "efc6233edd45da431397412b0d441724",
	},
}

func joined(keys ...api.Key) []byte {
	var b []byte
	for _, k := range keys {
		b = append(b, k[:]...)
	}
	return b
}

func TestKnownMakings(t *testing.T) {
	var secret api.Key
	for i := range secret {
		secret[i] = byte(32 + i)
	}
	for _, c := range known {
		key := api.Key(read(t, c.key))
		next, message := chain.Step(key)
		if next != api.Key(read(t, c.next)) || message != api.Key(read(t, c.message)) {
			t.Errorf("Step(%x): %x, %x", key, next, message)
		}
		root, begun, header := chain.Root(key, secret)
		if got := joined(root, begun, header); !bytes.Equal(got, read(t, c.root)) {
			t.Errorf("Root(%x, %x): %x", key, secret, got)
		}
		body, nonce := chain.Message(key)
		if got := append(joined(body), nonce[:]...); !bytes.Equal(got, read(t, c.forMessage)) {
			t.Errorf("Message(%x): %x", key, got)
		}
	}
}

// P11.1, P11.10

func checkStep(t *testing.T, key api.Key) {
	t.Helper()
	next, message := chain.Step(key)
	if next != hmacByWords(key, 2) || message != hmacByWords(key, 1) {
		t.Fatalf("Step(%x): %x, %x, by the library %x, %x", key, next, message, hmacByWords(key, 2), hmacByWords(key, 1))
	}
	if next != mac.Sum(key[:], []byte{2}) || message != mac.Sum(key[:], []byte{1}) {
		t.Fatalf("Step(%x): %x, %x, by layer 4 %x, %x", key, next, message, mac.Sum(key[:], []byte{2}), mac.Sum(key[:], []byte{1}))
	}
}

func TestStep(t *testing.T) {
	for _, key := range keys() {
		checkStep(t, key)
	}
	d := newDrawer(500)
	for range 2000 {
		checkStep(t, d.key())
	}
}

// P11.2, P11.10

func checkRoot(t *testing.T, root, secret api.Key) {
	t.Helper()
	next, begun, header := chain.Root(root, secret)
	got := joined(next, begun, header)
	if want := rootByWords(t, root, secret); !bytes.Equal(got, want) {
		t.Fatalf("Root(%x, %x): %x, by the library %x", root, secret, got, want)
	}
	if want, e := mac.Derive(root[:], secret[:], []byte("pawl root"), 96); e != api.OK || !bytes.Equal(got, want) {
		t.Fatalf("Root(%x, %x): %x, by layer 4 %x", root, secret, got, want)
	}
}

func TestRoot(t *testing.T) {
	all := keys()
	for i, key := range all {
		checkRoot(t, key, api.Key{})
		checkRoot(t, api.Key{}, key)
		checkRoot(t, key, key)
		checkRoot(t, key, all[len(all)-1-i])
	}
	d := newDrawer(501)
	for range 1000 {
		checkRoot(t, d.key(), d.key())
	}
}

// The root and the secret have places of their own.
func TestRootAndSecretExchanged(t *testing.T) {
	d := newDrawer(502)
	for range 100 {
		a, b := d.key(), d.key()
		next, begun, header := chain.Root(a, b)
		next2, begun2, header2 := chain.Root(b, a)
		if a != b && (next == next2 || begun == begun2 || header == header2) {
			t.Fatalf("Root(%x, %x) is the same, exchanged", a, b)
		}
	}
}

// P11.3

func checkMessage(t *testing.T, key api.Key) {
	t.Helper()
	body, nonce := chain.Message(key)
	got := slices.Concat(body[:], nonce[:])
	if want := messageByWords(t, key); !bytes.Equal(got, want) {
		t.Fatalf("Message(%x): %x, by the library %x", key, got, want)
	}
	if want, e := mac.Expand(key, []byte("pawl message"), 48); e != api.OK || !bytes.Equal(got, want) {
		t.Fatalf("Message(%x): %x, by layer 4 %x", key, got, want)
	}
}

func TestMessage(t *testing.T) {
	for _, key := range keys() {
		checkMessage(t, key)
	}
	d := newDrawer(503)
	for range 2000 {
		checkMessage(t, d.key())
	}
}

// What comes out of one key is in no two places.
func TestMakingsAreApart(t *testing.T) {
	d := newDrawer(504)
	for range 300 {
		key := d.key()
		seen := map[api.Key]int{key: 0}
		next, message := chain.Step(key)
		root, begun, header := chain.Root(key, key)
		body, _ := chain.Message(key)
		for i, k := range []api.Key{next, message, root, begun, header, body} {
			if other, twice := seen[k]; twice {
				t.Fatalf("of %x, the makings %d and %d are alike", key, other, i+1)
			}
			seen[k] = i + 1
		}
	}
}
