package group_test

import (
	"bytes"
	"encoding/hex"
	"math/big"
	"slices"
	"strings"
	"testing"

	"pawl/api"
)

// P24.3, and P24.11 of cards.

func TestLearn(t *testing.T) {
	s := sits(t, "eve", 1, api.Config{Version: 2, Skip: 3, Store: 4})
	for i, name := range []string{"zoe", "a", "abcdefghijklmnop", "ann", "annn", "an", "evee", "ev", "zzzzzzzzzzzzzzzz"} {
		w := speak(name, byte(10+i))
		w.gen, w.num = uint32(i)*uint32(i), uint32(3*i)
		s.learns(w.card())
		s.hears(w.says("first"), name, w.gen, w.num-1, "first")
		s.refusesCard("again", w.card(), api.PartRatchet, api.ErrElder)
	}
	if got := s.g.Members(); !slices.Equal(got, []string{"a", "abcdefghijklmnop", "an", "ann", "annn", "ev", "eve", "evee", "zoe", "zzzzzzzzzzzzzzzz"}) {
		t.Errorf("Members: %v", got)
	}
}

// A card tells the chain from where it stands: what was said before is not to be read.
func TestLearnLate(t *testing.T) {
	s, bob := sit(t, "ann", 1), speak("bob", 2)
	l := bob.saysAll(4)
	card := bob.card()
	next := bob.saysAll(2)
	s.learns(card)
	for _, b := range l {
		s.refuses("said ahead of the card", b, x, api.PartRatchet, api.ErrOld)
	}
	s.hears(next[1], "bob", 0, 5, "1")
	s.hears(next[0], "bob", 0, 4, "0")
}

// faults of a card, in the order of the chapter: each card is wrong in one way, or in that and one that comes behind it, or in all of them.
func TestLearnRefused(t *testing.T) {
	s := sit(t, "ann", 1)
	bob := speak("bob", 2)
	bob.gen = 4
	s.learns(bob.card())
	for i := range 30 {
		s.learns(speak("m"+string(rune('a'+i%26))+string(rune('a'+i/26)), byte(100+i)).card())
	}
	type fault struct {
		part   int
		why    api.Errno
		change func(c *cardPaper)
	}
	foreign := fault{api.PartArgs, api.ErrForeign, func(c *cardPaper) { c.id[31] = 8 }}
	noName := fault{api.PartArgs, api.ErrArg, func(c *cardPaper) { c.name = "Bob" }}
	self := fault{api.PartArgs, api.ErrSelf, func(c *cardPaper) { c.name = "ann" }}
	unsigned := fault{api.PartArgs, api.ErrCard, func(c *cardPaper) { c.public = publicByWords(api.Key{9}) }}
	elder := fault{api.PartRatchet, api.ErrElder, func(c *cardPaper) { c.name, c.gen = "bob", 3 }}
	full := fault{api.PartRatchet, api.ErrFull, func(c *cardPaper) { c.name = "new" }}
	good := bob.cardPaper()
	good.gen = 5
	for _, chain := range [][]fault{{foreign, noName, unsigned}, {foreign, self, unsigned}, {foreign, unsigned, elder}, {foreign, unsigned, full}} {
		for i, a := range chain {
			one, all := good, good
			a.change(&one)
			s.refusesCard("wrong once", one.signed(bob.seed), a.part, a.why)
			for j := len(chain) - 1; j >= i; j-- {
				two := good
				chain[j].change(&two)
				a.change(&two)
				s.refusesCard("wrong twice", two.signed(bob.seed), a.part, a.why)
				chain[j].change(&all)
			}
			s.refusesCard("wrong in all ways from one on", all.signed(bob.seed), a.part, a.why)
			s.refusesCard("a byte more", append(all.signed(bob.seed), 0), api.PartEnvelope, &api.Fault{At: len(all.signed(bob.seed)), Why: api.ErrOrder})
		}
	}
	for _, gen := range []uint32{0, 3, 4} {
		c := good
		c.gen = gen
		s.refusesCard("elder", c.signed(bob.seed), api.PartRatchet, api.ErrElder)
	}
	s.learns(good.signed(bob.seed))
}

// Names that are none.
func TestLearnNoName(t *testing.T) {
	s, bob := sit(t, "ann", 1), speak("bob", 2)
	for _, name := range []string{"Bob", "bob ", "b0b", "b\x00b", "böb", "{", "`", "ANN", "a-b"} {
		c := bob.cardPaper()
		c.name = name
		s.refusesCard(name, c.signed(bob.seed), api.PartArgs, api.ErrArg)
	}
	for _, name := range []string{"", strings.Repeat("b", 17), "b\xffb"} { // these the schema has not
		c := bob.cardPaper()
		c.name = name
		why := api.ErrRange
		if len(name) == 3 {
			why = api.ErrForm
		}
		s.refusesCard(name, c.signed(bob.seed), api.PartEnvelope, &api.Fault{At: 34, Why: why})
	}
}

// Each bit of the card is signed, and each of the signature counts.
func TestLearnBits(t *testing.T) {
	s, bob := sit(t, "ann", 1), speak("bob", 2)
	bob.num, bob.gen = 5, 6
	card := bob.card()
	for bit := range 8 * len(card) {
		b := turned(card, bit)
		if s.learn(b) == nil {
			t.Fatalf("bit %d turned: it is taken", bit)
		}
	}
	for bit := range 256 {
		c := bob.cardPaper()
		c.id = api.Key(turned(c.id[:], bit))
		s.refusesCard("another group's", c.signed(bob.seed), api.PartArgs, api.ErrForeign)
	}
	s.learns(card)
}

// A card is signed by its own key, over just what the chapter says.
func TestLearnSigned(t *testing.T) {
	s, bob, eve := sit(t, "ann", 1), speak("bob", 2), speak("eve", 3)
	c := bob.cardPaper()
	sig := func(mark string, text []byte) []byte { return signByWords(bob.seed, append([]byte(mark), text...)) }
	for what, b := range map[string][]byte{
		"by another one":         c.signed(eve.seed),
		"by the chain's key":     c.signed(bob.key),
		"by the seed":            c.signed(api.Key(seedOf(2))),
		"without a mark":         c.with(sig("", c.text())),
		"as a message":           c.with(sig("pawl said", c.text())),
		"with a longer mark":     c.with(sig("pawl card ", c.text())),
		"with a mark in capital": c.with(sig("Pawl card", c.text())),
		"of one byte more":       c.with(sig("pawl card", append(c.text(), 0))),
		"of the empty signature": c.with(sig("pawl card", append(c.text(), 0x3a, 0))),
		"of nothing":             c.with(sig("pawl card", nil)),
		"of zeros":               c.with(make([]byte, 64)),
		"of all":                 c.with(sig("pawl card", c.signed(bob.seed))),
		"without the public key": c.with(sig("pawl card", c.text()[:len(c.text())-34])),
	} {
		s.refusesCard(what, b, api.PartArgs, api.ErrCard)
	}
	s.learns(c.signed(bob.seed))
}

// secondS is a signature with the order put on its second number.
func secondS(sig []byte) []byte {
	order, _ := new(big.Int).SetString("7237005577332262213973186563042994240857116359379907606001950938285454250989", 10)
	n := slices.Clone(sig[32:])
	slices.Reverse(n)
	out := order.Add(order, new(big.Int).SetBytes(n)).FillBytes(make([]byte, 32))
	slices.Reverse(out)
	return append(slices.Clone(sig[:32]), out...)
}

// small is the public keys for which anybody could sign, and some that are in another form; forAll is a signature that holds for the first of them whatever is signed.
func small() []api.Key {
	var l []api.Key
	for _, digits := range append([]string{"01" + strings.Repeat("00", 31)}, smallNumbers...) {
		k := api.Key(fine(hex.DecodeString(digits)))
		l = append(l, k)
		k[31] |= 0x80
		l = append(l, k)
	}
	for low := 0xed; low < 0x100; low++ {
		k := api.Key(bytes.Repeat([]byte{0xff}, 32))
		k[0] = byte(low)
		l = append(l, k)
		k[31] = 0x7f
		l = append(l, k)
	}
	return l
}

func forAll() []byte { return append([]byte{1}, make([]byte, 63)...) }

// What sign.Check refuses is no card, though Go's own takes some of it.
func TestLearnStrict(t *testing.T) {
	s, bob := sit(t, "ann", 1), speak("bob", 2)
	c := bob.cardPaper()
	for _, public := range small() {
		c.public = public
		s.refusesCard("a small key", c.with(forAll()), api.PartArgs, api.ErrCard)
	}
	c = bob.cardPaper()
	sig := signByWords(bob.seed, append([]byte("pawl card"), c.text()...))
	s.refusesCard("a second signature", c.with(secondS(sig)), api.PartArgs, api.ErrCard)
	s.learns(c.with(sig))
}

// Of three cards the eldest is gone, with what was kept for it.
func TestLearnNewer(t *testing.T) {
	s, bob, eve := sit(t, "ann", 1), speak("bob", 2), speak("eve", 3)
	s.learns(eve.card())
	others := eve.saysAll(2)
	s.hears(others[1], "eve", 0, 1, "1")
	var said [][][]byte
	gens := []uint32{0, 3, 7, 8, mostCount}
	for i, gen := range gens {
		bob.gen, bob.num = gen, uint32(i)
		bob.key, bob.seed = givenByWords(seedOf(byte(20 + i)))
		s.learns(bob.card())
		for _, g := range gens[:i+1] {
			c := bob.cardPaper()
			c.gen = g
			s.refusesCard("elder", c.signed(bob.seed), api.PartRatchet, api.ErrElder)
			c.gen = max(g, 1) - 1
			s.refusesCard("elder", c.signed(bob.seed), api.PartRatchet, api.ErrElder)
		}
		said = append(said, bob.saysAll(4))
		s.hears(said[i][2], "bob", gen, uint32(i+2), "2") // two spares of each
		if want := min(2*(i+1), 4) + 1; len(s.w.spares) != want {
			t.Fatalf("%d spares, not %d", len(s.w.spares), want)
		}
		for j := range i - 1 {
			s.refuses("of a card that is gone", said[j][0], x, api.PartRatchet, api.ErrMember)
			s.refuses("of a card that is gone", said[j][3], x, api.PartRatchet, api.ErrMember)
		}
	}
	n := len(gens)
	s.hears(said[n-2][3], "bob", gens[n-2], uint32(n-2+3), "3") // the elder one is read on
	s.hears(said[n-2][1], "bob", gens[n-2], uint32(n-2+1), "1")
	s.hears(said[n-1][0], "bob", gens[n-1], uint32(n-1), "0")
	s.hears(said[n-1][3], "bob", gens[n-1], uint32(n-1+3), "3")
	s.hears(others[0], "eve", 0, 0, "0")
}

// card is a member's one of a generation whose chain and key are of a seed, and stands at a number.
func cardOfSeed(name string, gen uint32, seed byte, num uint32) (*side, []byte) {
	w := speak(name, seed)
	w.gen, w.num = gen, num
	return w, w.card()
}

// The spares of a public key stay as long as one card has it: the one that comes, the one that was current, another member's.
func TestLearnSharedKey(t *testing.T) {
	for _, x := range []struct {
		what     string
		seeds    [3]byte // of bob's cards, one behind the other
		eve      byte
		eveElder bool
		spares   int
	}{
		{"nobody has it", [3]byte{10, 11, 12}, 13, false, 0},
		{"the new card has it", [3]byte{10, 11, 10}, 13, false, 2},
		{"the elder card has it", [3]byte{10, 10, 12}, 13, false, 2},
		{"both have it", [3]byte{10, 10, 10}, 13, false, 2},
		{"another member's has it", [3]byte{10, 11, 12}, 10, false, 2},
		{"another member's elder one has it", [3]byte{10, 11, 12}, 10, true, 2},
	} {
		s := sit(t, "ann", 1)
		_, card := cardOfSeed("eve", 0, x.eve, 50)
		s.learns(card)
		if x.eveElder {
			_, card = cardOfSeed("eve", 1, 14, 0)
			s.learns(card)
		}
		first, card := cardOfSeed("bob", 0, x.seeds[0], 0)
		s.learns(card)
		l := first.saysAll(3)
		s.hears(l[2], "bob", 0, 2, "2")
		for gen := uint32(1); gen < 3; gen++ {
			_, card = cardOfSeed("bob", gen, x.seeds[gen], 20*gen)
			if len(s.w.spares) != 2 {
				t.Fatalf("%s: %d spares ahead of the card %d", x.what, len(s.w.spares), gen)
			}
			s.learns(card)
		}
		if got := len(s.w.spares); got != x.spares {
			t.Errorf("%s: %d spares, not %d", x.what, got, x.spares)
		}
	}
}

// So it is when a member is removed.
func TestRemoveSharedKey(t *testing.T) {
	for _, x := range []struct {
		bob    [2]byte
		eve    byte
		spares int
	}{{[2]byte{10, 11}, 12, 1}, {[2]byte{10, 11}, 10, 3}, {[2]byte{10, 11}, 11, 2}, {[2]byte{10, 10}, 12, 1}, {[2]byte{10, 10}, 10, 4}} {
		s := sit(t, "ann", 1)
		fay, card := cardOfSeed("fay", 0, 15, 0)
		s.learns(card)
		l := fay.saysAll(2)
		s.hears(l[1], "fay", 0, 1, "1")
		_, card = cardOfSeed("eve", 0, x.eve, 50)
		s.learns(card)
		for gen, skipped := range []int{2, 1} {
			bob, card := cardOfSeed("bob", uint32(gen), x.bob[gen], uint32(20*gen))
			s.learns(card)
			l := bob.saysAll(skipped + 1)
			s.hears(l[skipped], "bob", uint32(gen), uint32(20*gen+skipped), string(rune('0'+skipped)))
		}
		must(t, "Remove", s.remove("bob", seedOf(9)))
		if got := len(s.w.spares); got != x.spares {
			t.Errorf("%v: %d spares, not %d", x, got, x.spares)
		}
	}
}

// MaxMembers are known, oneself counted, and no more; a known one's new card needs no room, and who is removed makes some.
func TestLearnFull(t *testing.T) {
	s := sit(t, "m", 1)
	var others []*side
	for i := range mostMembers {
		w := speak(string(rune('a'+i%26))+string(rune('a'+i/26)), byte(10+i))
		others = append(others, w)
		if i < mostMembers-1 {
			s.learns(w.card())
		}
	}
	last := others[mostMembers-1]
	if n := len(s.g.Members()); n != mostMembers {
		t.Fatalf("%d members", n)
	}
	s.refusesCard("one too many", last.card(), api.PartRatchet, api.ErrFull)
	for _, w := range []*side{others[0], others[15], others[mostMembers-2]} {
		s.refusesCard("a known one's again", w.card(), api.PartRatchet, api.ErrElder)
		must(t, "Renew", w.renew(seedOf(77)))
		s.learns(w.card())
		must(t, "Renew", w.renew(seedOf(78)))
		s.learns(w.card())
		s.hears(w.says("full"), w.me, 2, 0, "full")
	}
	s.refusesCard("one too many", last.card(), api.PartRatchet, api.ErrFull)
	must(t, "Remove", s.remove(others[4].me, seedOf(9)))
	s.learns(last.card())
	s.refusesCard("one too many", others[4].card(), api.PartRatchet, api.ErrFull)
}

// Bytes that no card are: cut, lengthened, put in, taken out, spoiled at each place.
func TestLearnBytes(t *testing.T) {
	s, bob := sit(t, "ann", 1), speak("bob", 2)
	bob.num, bob.gen = 0x04030201, 0x08070605
	card := bob.card()
	s.refusesCard("no bytes", nil, api.PartEnvelope, &api.Fault{Why: api.ErrSlots})
	s.refusesCard("far too long", make([]byte, 1<<22+1), api.PartEnvelope, &api.Fault{Why: api.ErrLong})
	for at, n := range map[int]int{0: 32, 44: 32, 83: 32, 117: 64} { // the id, the keys, the signature
		for _, other := range []int{n - 1, n + 1, 0, 96} {
			s.refusesCard("another size", sized(card, at, other), api.PartEnvelope, &api.Fault{At: at, Why: api.ErrRange})
		}
	}
	found := map[api.Errno]int{}
	count := func(err error) {
		if err != nil {
			err = err.(*api.Wrap).Err
		}
		if f, is := err.(*api.Fault); is {
			found[f.Why]++
		}
	}
	for at := range card {
		if s.learn(card[:at]) == nil {
			t.Fatalf("the first %d bytes are a card", at)
		}
		for _, more := range []byte{0, 0x11, 0x80} {
			count(s.learn(slices.Insert(slices.Clone(card), at, more)))
		}
		count(s.learn(slices.Delete(slices.Clone(card), at, at+1)))
	}
	for _, at := range []int{0, 1, 34, 35, 39, 44, 45, 78, 83, 84, 117, 118} { // heads, and numbers of bytes
		for to := range 256 {
			if to != int(card[at]) {
				b := slices.Clone(card)
				b[at] = byte(to)
				count(s.learn(b))
			}
		}
	}
	for to := range 256 {
		count(s.learn(append(slices.Clone(card), byte(to))))
		count(s.learn(append(slices.Clone(card), byte(to), 0)))
	}
	for _, e := range []api.Errno{api.ErrRange, api.ErrSlots, api.ErrKind, api.ErrCut, api.ErrOrder, api.ErrType, api.ErrNumber} {
		if found[e] == 0 {
			t.Errorf("nothing is answered %v", e)
		}
	}
	s.learns(card)
}
