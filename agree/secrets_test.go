package agree_test

import (
	"bytes"
	"fmt"
	"testing"

	"pawl/agree"
	"pawl/api"
	"pawl/curve"
)

// P14.3, P14.4, P14.6

// start calls Start and holds its answer against the words.
func start(t *testing.T, own, fresh api.Pair, b api.Bundle) (api.Secrets, api.Errno) {
	t.Helper()
	want, wantE := startByWords(own, fresh, b)
	got, e := agree.Start(own, fresh, b)
	if e != wantE || !same(got, want) || e != api.OK && !none(got) || e == api.OK && len(got.Extra) != 64 {
		t.Fatalf("Start(%x, %x, %v): %x, %v, not %x, %v", own, fresh, b, got, e, want, wantE)
	}
	return got, e
}

// answer does so of Answer.
func answer(t *testing.T, own, signed, once api.Pair, hasOnce bool, peer, fresh api.Key) (api.Secrets, api.Errno) {
	t.Helper()
	want, wantE := answerByWords(own, signed, once, hasOnce, peer, fresh)
	got, e := agree.Answer(own, signed, once, hasOnce, peer, fresh)
	if e != wantE || !same(got, want) || e != api.OK && !none(got) || e == api.OK && len(got.Extra) != 64 {
		t.Fatalf("Answer(%x, %x, %x, %v, %x, %x): %x, %v, not %x, %v", own, signed, once, hasOnce, peer, fresh, got, e, want, wantE)
	}
	return got, e
}

// starts holds the error of Start, answers that of Answer.
func starts(t *testing.T, what string, own, fresh api.Pair, b api.Bundle, why api.Errno) {
	t.Helper()
	if _, e := start(t, own, fresh, b); e != why {
		t.Errorf("Start, %s: %v, not %v", what, e, why)
	}
}

// Secrets of pairs of seeds that count up, reckoned apart (by chord and tangent, not by a ladder).
func TestKnownSecrets(t *testing.T) {
	var pairs [5]api.Pair
	for i := range pairs {
		seed := counted(byte(32 * i))
		pairs[i], _ = curve.Pair(seed[:])
	}
	own, fresh, identity, signed, once := pairs[0], pairs[1], pairs[2], pairs[3], pairs[4]
	extra := un("8f40c5adb68f25624ae5b214ea767a6ec94d829d3d7b5e1ad1ba6f3e2138285f 79a631eede1bf9c98f12032cdeadd0e7a079398fc786b88cc846ec89af85a51a")
	for hasOnce, told := range map[bool][3]string{
		false: {
			"001ed03c0af6366c8b24beca9ddfd6d71db979ce109c18ef8be115d7c1d263b9",
			"2d44f9d15d441c5e59791d5cd51971786458c00e10bb72dd8b707f98a4a6c2ea",
			"0f49a93271b1d84c03bb579bd881ce1cb9ab6201f5e4c5951279025accecb56a",
		},
		true: {
			"ff199df5c31a2e5310e9061fcab81c02fc0785b6748de7308636980304e799af",
			"0d72ddee89b85ca9d2192715b08168fdec198e1bb3273ad4d6b458b4e2c7a44f",
			"50fc6f96630d8c266b7bd95306f394203a8ea9fa2bc9028308270362216348f9",
		},
	} {
		want := api.Secrets{Shared: api.Key(un(told[0])), HeaderA: api.Key(un(told[1])), HeaderB: api.Key(un(told[2])), Extra: extra}
		if got, e := start(t, own, fresh, agree.Offer(identity, signed, once, hasOnce)); e != api.OK || !same(got, want) {
			t.Errorf("Start, %v: %x, %v", hasOnce, got, e)
		}
		if got, e := answer(t, identity, signed, once, hasOnce, own.Public, fresh.Public); e != api.OK || !same(got, want) {
			t.Errorf("Answer, %v: %x, %v", hasOnce, got, e)
		}
	}
}

// Example 2.
func TestStartExamples(t *testing.T) {
	d := newDrawer(810)
	own, fresh := d.pair(), d.pair()
	b := agree.Offer(d.pair(), d.pair(), d.pair(), false)
	b.Signed = api.Key{1}
	starts(t, "Signed is the key 1", own, fresh, b, api.ErrWeak)
	b.Once = d.key()
	starts(t, "a key for once that is not offered", own, fresh, b, api.ErrBundle)
	b.Signed = d.pair().Public
	starts(t, "that alone", own, fresh, b, api.ErrBundle)
}

// P14.6, of pairs of drawn seeds, the seeds at their ends, and all pairs alike.
func TestAgreed(t *testing.T) {
	d := newDrawer(811)
	hold := func(seeds [5]api.Key) {
		t.Helper()
		var p [5]api.Pair
		for i, seed := range seeds {
			p[i], _ = curve.Pair(seed[:])
		}
		for _, hasOnce := range []bool{false, true} {
			one, e := start(t, p[0], p[1], agree.Offer(p[2], p[3], p[4], hasOnce))
			other, f := answer(t, p[2], p[3], p[4], hasOnce, p[0].Public, p[1].Public)
			if e != api.OK || f != api.OK || !same(one, other) {
				t.Fatalf("of the seeds %x, %v: %x, %v and %x, %v", seeds, hasOnce, one, e, other, f)
			}
			if one.Shared == one.HeaderA || one.HeaderA == one.HeaderB || one.Shared == one.HeaderB {
				t.Fatalf("of the seeds %x two secrets are alike: %x", seeds, one)
			}
		}
	}
	for range 60 {
		hold([5]api.Key{d.key(), d.key(), d.key(), d.key(), d.key()})
	}
	for _, k := range []api.Key{{}, repeated(0xff), {1}, counted(0), d.key()} {
		hold([5]api.Key{k, k, k, k, k})
		hold([5]api.Key{d.key(), k, d.key(), k, k})
		hold([5]api.Key{k, d.key(), k, d.key(), d.key()})
	}
}

// An agreement of bundles that went over the network.
func TestAgreedByBytes(t *testing.T) {
	d := newDrawer(812)
	for i := range 20 {
		hasOnce := i%2 == 0
		own, fresh, identity, signed, once := d.pair(), d.pair(), d.pair(), d.pair(), d.pair()
		b, err := agree.Parse(agree.Pack(agree.Offer(identity, signed, once, hasOnce)))
		if err != nil {
			t.Fatal(err)
		}
		one, e := start(t, own, fresh, b)
		other, f := answer(t, identity, signed, once, hasOnce, own.Public, fresh.Public)
		if e != api.OK || f != api.OK || !same(one, other) {
			t.Fatalf("%x, %v and %x, %v", one, e, other, f)
		}
	}
}

// A weak key at each place of a bundle; beside it, and by itself, a key for once that is not offered.
func TestStartRefuses(t *testing.T) {
	d := newDrawer(813)
	own, fresh := d.pair(), d.pair()
	for _, w := range weak() {
		for _, hasOnce := range []bool{false, true} {
			good := agree.Offer(d.pair(), d.pair(), d.pair(), hasOnce)
			starts(t, "a good bundle", own, fresh, good, api.OK)
			identity, signed, both := good, good, good
			identity.Identity, signed.Signed = w, w
			both.Identity, both.Signed = w, w
			for i, b := range []api.Bundle{identity, signed, both} {
				starts(t, fmt.Sprintf("%d weak with %x", i, w), own, fresh, b, api.ErrWeak)
				b.HasOnce, b.Once = true, w
				starts(t, "with a weak key for once too", own, fresh, b, api.ErrWeak)
				b.HasOnce, b.Once = false, d.key()
				starts(t, "weak, and can't be", own, fresh, b, api.ErrBundle)
			}
			once := good
			once.Once = w
			why := api.ErrWeak
			if !hasOnce && w == (api.Key{}) {
				why = api.OK
			} else if !hasOnce {
				why = api.ErrBundle
			}
			starts(t, "a weak key for once", own, fresh, once, why)
		}
	}
}

// A bundle can't be, whichever bit of the key for once is set.
func TestStartRefusesEachBit(t *testing.T) {
	d := newDrawer(814)
	own, fresh := d.pair(), d.pair()
	good := agree.Offer(d.pair(), d.pair(), d.pair(), false)
	for bit := range 256 {
		b := good
		b.Once[bit/8] = 1 << (bit % 8)
		if s, e := agree.Start(own, fresh, b); e != api.ErrBundle || !none(s) {
			t.Fatalf("bit %d: %x, %v", bit, s, e)
		}
	}
}

func TestAnswerRefuses(t *testing.T) {
	d := newDrawer(815)
	own, signed, once := d.pair(), d.pair(), d.pair()
	answers := func(what string, hasOnce bool, peer, fresh api.Key, why api.Errno) {
		t.Helper()
		if _, e := answer(t, own, signed, once, hasOnce, peer, fresh); e != why {
			t.Errorf("Answer, %s: %v, not %v", what, e, why)
		}
	}
	for _, w := range weak() {
		for _, hasOnce := range []bool{false, true} {
			answers("good keys", hasOnce, d.pair().Public, d.pair().Public, api.OK)
			answers("a weak peer", hasOnce, w, d.pair().Public, api.ErrWeak)
			answers("a weak fresh key", hasOnce, d.pair().Public, w, api.ErrWeak)
			answers("both weak", hasOnce, w, w, api.ErrWeak)
		}
	}
}

// A weak key in the public half of one's own pairs is not looked at, nor is a pair for once that is not used: of each the Extra at most tells.
func TestWhatIsNotLookedAt(t *testing.T) {
	d := newDrawer(816)
	own, fresh, identity, signed, once := d.pair(), d.pair(), d.pair(), d.pair(), d.pair()
	for _, w := range append(weak(), d.key()) {
		for _, hasOnce := range []bool{false, true} {
			b := agree.Offer(identity, signed, once, hasOnce)
			want, _ := start(t, own, fresh, b)
			got, e := start(t, api.Pair{Private: own.Private, Public: w}, api.Pair{Private: fresh.Private, Public: w}, b)
			want.Extra = append(bytes.Clone(w[:]), identity.Public[:]...)
			if e != api.OK || !same(got, want) {
				t.Fatalf("Start with %x as own public keys: %x, %v, not %x", w, got, e, want)
			}
			want, _ = answer(t, identity, signed, once, hasOnce, own.Public, fresh.Public)
			got, e = answer(t, api.Pair{Private: identity.Private, Public: w}, api.Pair{Private: signed.Private, Public: w}, api.Pair{Private: once.Private, Public: w}, hasOnce, own.Public, fresh.Public)
			want.Extra = append(bytes.Clone(own.Public[:]), w[:]...)
			if e != api.OK || !same(got, want) {
				t.Fatalf("Answer with %x as own public keys: %x, %v, not %x", w, got, e, want)
			}
		}
		want, _ := answer(t, identity, signed, once, false, own.Public, fresh.Public)
		if got, e := answer(t, identity, signed, api.Pair{Private: w, Public: w}, false, own.Public, fresh.Public); e != api.OK || !same(got, want) {
			t.Fatalf("Answer with a pair for once of %x that is not used: %x, %v", w, got, e)
		}
	}
}

// Private keys that are not clamped do as those that are.
func TestPrivateKeysAsTheyAre(t *testing.T) {
	d := newDrawer(817)
	ends := []api.Key{{}, repeated(0xff), {7}, {31: 0x80}, {31: 0xc0}, {0: 7, 31: 0x80}}
	for i := range 30 {
		private := d.key()
		if i < len(ends) {
			private = ends[i]
		}
		private[0] |= byte(i % 8)
		loose, tight := api.Pair{Private: private, Public: d.key()}, api.Pair{Private: curve.Clamp(private)}
		tight.Public = loose.Public
		other, b := d.odd(), agree.Offer(d.pair(), d.pair(), d.pair(), i%2 == 0)
		for _, x := range [][2][2]api.Pair{{{loose, other}, {tight, other}}, {{other, loose}, {other, tight}}} {
			one, e := start(t, x[0][0], x[0][1], b)
			two, f := start(t, x[1][0], x[1][1], b)
			if e != api.OK || f != api.OK || !same(one, two) {
				t.Fatalf("Start: %x, %v and %x, %v", one, e, two, f)
			}
		}
		peer, fresh := d.pair().Public, d.pair().Public
		one, e := answer(t, loose, loose, loose, i%2 == 0, peer, fresh)
		two, f := answer(t, tight, tight, tight, i%2 == 0, peer, fresh)
		if e != api.OK || f != api.OK || !same(one, two) {
			t.Fatalf("Answer: %x, %v and %x, %v", one, e, two, f)
		}
	}
}

// Of keys that count, each changes all three secrets; no two of them change places for nothing.
func TestEachKeyCounts(t *testing.T) {
	d := newDrawer(818)
	own, fresh, identity, signed, once := d.pair(), d.pair(), d.pair(), d.pair(), d.pair()
	seen := map[api.Key]string{}
	hold := func(what string, s api.Secrets, e api.Errno) {
		t.Helper()
		if e != api.OK {
			t.Fatalf("%s: %v", what, e)
		}
		for _, k := range []api.Key{s.Shared, s.HeaderA, s.HeaderB} {
			if before, twice := seen[k]; twice {
				t.Errorf("%s gives a key that %s gives", what, before)
			}
			seen[k] = what
		}
	}
	starting := func(what string, own, fresh, identity, signed, once api.Pair, hasOnce bool) {
		t.Helper()
		s, e := start(t, own, fresh, agree.Offer(identity, signed, once, hasOnce))
		hold(what, s, e)
	}
	starting("all", own, fresh, identity, signed, once, true)
	starting("without once", own, fresh, identity, signed, once, false)
	starting("another own", d.pair(), fresh, identity, signed, once, true)
	starting("another fresh", own, d.pair(), identity, signed, once, true)
	starting("another identity", own, fresh, d.pair(), signed, once, true)
	starting("another signed", own, fresh, identity, d.pair(), once, true)
	starting("another once", own, fresh, identity, signed, d.pair(), true)
	starting("own and fresh exchanged", fresh, own, identity, signed, once, true)
	starting("identity and signed exchanged", own, fresh, signed, identity, once, true)
	starting("signed and once exchanged", own, fresh, identity, once, signed, true)
	starting("identity and once exchanged", own, fresh, once, signed, identity, true)
}

// Drawn keys of all kinds, against the words.
func TestSecretsDrawn(t *testing.T) {
	d := newDrawer(819)
	count := map[api.Errno]int{}
	for range 250 {
		b := api.Bundle{Identity: d.mixed(), Signed: d.mixed(), HasOnce: d.Intn(2) == 0}
		if b.HasOnce || d.Intn(5) == 0 {
			b.Once = d.mixed()
		}
		_, e := start(t, d.either(), d.either(), b)
		_, f := answer(t, d.either(), d.either(), d.either(), d.Intn(2) == 0, d.mixed(), d.mixed())
		count[e]++
		count[f]++
	}
	if count[api.OK] < 100 || count[api.ErrWeak] < 20 || count[api.ErrBundle] < 5 {
		t.Errorf("drawn: %v", count)
	}
}
