package group_test

import (
	"bytes"
	"slices"
	"strings"
	"testing"

	"pawl/api"
)

// P24.5, and P24.11 of messages.

// letterOf is what a side says next, unsigned, in its parts.
func (s *side) letterOf(plain string) letter {
	_, message := stepByWords(s.key)
	l := letter{paper: s.paper(), n: s.num}
	l.box = boxByWords(message, l.bound(x), padByWords(s.config.Version, []byte(plain)))
	return l
}

// letterAt is what a side says so many steps ahead, with whatever body.
func (s *side) letterAt(steps int, body []byte) letter {
	l := letter{paper: s.paper(), n: s.num + uint32(steps)}
	l.box = boxByWords(messageByWords(s.key, steps), l.bound(x), body)
	return l
}

func TestReceive(t *testing.T) {
	for _, version := range []int{1, 2} {
		s, bob := sits(t, "ann", 1, api.Config{Version: version, Skip: 5, Store: 9}), speaks("bob", 2, api.Config{Version: version})
		s.learns(bob.card())
		for n, plain := range []string{"", "a", "two", strings.Repeat("b", 60), strings.Repeat("c", 61), strings.Repeat("d", 1000), "\x00\xff\x00"} {
			s.hears(bob.says(plain), "bob", 0, uint32(n), plain)
		}
	}
}

// In whatever order; what was skipped is kept, and heard once.
func TestReceiveOrder(t *testing.T) {
	s, bob := sit(t, "ann", 1), speak("bob", 2)
	s.learns(bob.card())
	l := bob.saysAll(8)
	for i, n := range []int{3, 0, 2, 5, 7, 1, 6, 4} {
		s.hears(l[n], "bob", 0, uint32(n), string(rune('0'+n)))
		s.refuses("again", l[n], x, api.PartRatchet, api.ErrOld)
		if got, want := len(s.w.spares), []int{3, 2, 1, 2, 3, 2, 1, 0}[i]; got != want {
			t.Fatalf("%d spares, not %d", got, want)
		}
	}
}

// wrongOf is a way in which a message is wrong.
type wrongOf struct {
	what   string
	part   int
	why    api.Errno
	change func(l *letter)
}

// Each refusal by itself, ahead of each that comes behind it, and ahead of all of them.
func TestReceiveRefused(t *testing.T) {
	bob := speak("bob", 2)
	bob.num = 20
	s := sit(t, "ann", 1)
	s.learns(bob.card())
	foreign := wrongOf{"foreign", api.PartArgs, api.ErrForeign, func(l *letter) { l.id = api.Key{1} }}
	self := wrongOf{"oneself", api.PartArgs, api.ErrSelf, func(l *letter) { l.name = "ann" }}
	stranger := wrongOf{"a stranger", api.PartRatchet, api.ErrMember, func(l *letter) { l.name = "zoe" }}
	noName := wrongOf{"no name", api.PartRatchet, api.ErrMember, func(l *letter) { l.name = "Bob" }}
	other := wrongOf{"another generation", api.PartRatchet, api.ErrMember, func(l *letter) { l.gen = 1 }}
	old := wrongOf{"old", api.PartRatchet, api.ErrOld, func(l *letter) { l.n = 19 }}
	last := wrongOf{"the end", api.PartRatchet, api.ErrExhausted, func(l *letter) { l.n = mostCount }}
	skip := wrongOf{"too far", api.PartRatchet, api.ErrSkip, func(l *letter) { l.n = 26 }}
	box := wrongOf{"another box", api.PartBody, api.ErrBody, func(l *letter) { l.box = make([]byte, len(l.box)) }}
	for _, chain := range [][]wrongOf{{foreign, self, box}, {foreign, stranger, old, box}, {foreign, noName, last, box}, {foreign, other, skip, box}} {
		for i, a := range chain {
			all := bob.letterOf("text")
			for j := len(chain) - 1; j >= i; j-- {
				two := bob.letterOf("text")
				chain[j].change(&two)
				a.change(&two)
				s.refuses(a.what, two.signed(bob.seed), x, a.part, a.why)
				chain[j].change(&all)
			}
			s.refuses(a.what, all.signed(bob.seed), x, a.part, a.why)
			unsigned, part, why := all.signed(api.Key{5}), api.PartHeader, api.ErrSignature
			if a.why == api.ErrForeign || a.why == api.ErrSelf || a.why == api.ErrMember {
				part, why = a.part, a.why
			}
			s.refuses("unsigned, "+a.what, unsigned, x, part, why)
			longer := append(all.signed(bob.seed), 0)
			s.refuses("a byte more, "+a.what, longer, x, api.PartEnvelope, &api.Fault{At: len(longer) - 1, Why: api.ErrOrder})
			s.refuses("a long extra, "+a.what, longer, make([]byte, mostExtra+1), api.PartArgs, api.ErrLong)
		}
	}
	s.refuses("a body that is none", bob.letterAt(0, make([]byte, 65)).signed(bob.seed), x, api.PartPadding, api.ErrPadding)
	s.hears(bob.letterOf("text").signed(bob.seed), "bob", 0, 20, "text")
}

// Each bit of a message, and of the extra.
func TestReceiveBits(t *testing.T) {
	s, bob := sit(t, "ann", 1), speak("bob", 2)
	bob.gen, bob.num = 3, 2
	s.learns(bob.card())
	b := bob.letterOf("text").signed(bob.seed)
	for bit := range 8 * len(b) {
		if _, err := s.receive(turned(b, bit), x); err == nil {
			t.Fatalf("bit %d turned: it is heard", bit)
		}
	}
	for _, extra := range [][]byte{nil, {}, {0}, []byte("y"), []byte("xx"), []byte("X"), {'x', 0}, {0, 'x'}} {
		s.refuses("another extra", b, extra, api.PartBody, api.ErrBody)
	}
	s.hears(b, "bob", 3, 2, "text")
}

// Who can read, but not sign, speaks for nobody.
func TestReceiveSigned(t *testing.T) {
	s, bob, eve := sit(t, "ann", 1), speak("bob", 2), speak("eve", 3)
	s.learns(bob.card())
	s.learns(eve.card())
	l := bob.letterOf("text")
	sig := func(mark string, text []byte) []byte { return signByWords(bob.seed, append([]byte(mark), text...)) }
	for what, b := range map[string][]byte{
		"by another member":      l.signed(eve.seed),
		"by the chain's key":     l.signed(bob.key),
		"without a mark":         l.with(sig("", l.text())),
		"as a card":              l.with(sig("pawl card", l.text())),
		"with a longer mark":     l.with(sig("pawl said ", l.text())),
		"of one byte more":       l.with(sig("pawl said", append(l.text(), 0))),
		"of the head":            l.with(sig("pawl said", l.bound(nil))),
		"of the head and x":      l.with(sig("pawl said", l.bound(x))),
		"of nothing":             l.with(sig("pawl said", nil)),
		"of zeros":               l.with(make([]byte, 64)),
		"a second one":           l.with(secondS(sig("pawl said", l.text()))),
		"of what was signed":     l.with(sig("pawl said", l.signed(bob.seed))),
		"of the empty signature": l.with(sig("pawl said", append(l.text(), 0x32, 0))),
	} {
		s.refuses(what, b, x, api.PartHeader, api.ErrSignature)
	}
	s.hears(l.signed(bob.seed), "bob", 0, 0, "text")
}

// An imported card may have a key for which anybody could sign: nothing is taken for it.
func TestReceiveStrict(t *testing.T) {
	for _, public := range small() {
		w, bob := speak("ann", 1), speak("bob", 2)
		w.others["bob"] = []known{{0, public, bob.key, 0}}
		s := from(t, w)
		l := bob.letterOf("text")
		s.refuses("a small key", l.with(forAll()), x, api.PartHeader, api.ErrSignature)
	}
}

// A message is the generation's that it says, and signed by the key of that.
func TestReceiveGenerations(t *testing.T) {
	s, bob := sit(t, "ann", 1), speak("bob", 2)
	s.learns(bob.card())
	elder := *bob
	must(t, "Renew", bob.renew(seedOf(4)))
	s.learns(bob.card())
	for _, gen := range []uint32{2, 3, mostCount} {
		l := bob.letterOf("text")
		l.gen = gen
		s.refuses("no such generation", l.signed(bob.seed), x, api.PartRatchet, api.ErrMember)
	}
	l := bob.letterOf("text")
	l.gen = 0
	s.refuses("the elder generation", l.signed(bob.seed), x, api.PartHeader, api.ErrSignature)
	s.refuses("signed for the elder one", l.signed(elder.seed), x, api.PartBody, api.ErrBody)
	s.refuses("signed by the elder one", bob.letterOf("text").signed(elder.seed), x, api.PartHeader, api.ErrSignature)
	s.hears(elder.says("elder"), "bob", 0, 0, "elder")
	s.hears(bob.says("newer"), "bob", 1, 0, "newer")
	s.hears(elder.letterAt(2, padByWords(1, []byte("two on"))).signed(elder.seed), "bob", 0, 3, "two on")
	s.hears(elder.says("elder"), "bob", 0, 1, "elder")
	s.hears(elder.says("elder"), "bob", 0, 2, "elder")
}

// Skip is how far may be gone at once.
func TestReceiveSkip(t *testing.T) {
	for _, skip := range []int{0, 1, 2, 5, 1000} {
		for _, ahead := range []int{skip - 1, skip, skip + 1, skip + 2} {
			if ahead < 0 {
				continue
			}
			s, bob := sits(t, "ann", 1, api.Config{Version: 1, Skip: skip, Store: 1000}), speak("bob", 2)
			bob.num = 7
			s.learns(bob.card())
			b := bob.letterAt(ahead, padByWords(1, []byte("ahead"))).signed(bob.seed)
			if ahead > skip {
				s.refuses("too far", b, x, api.PartRatchet, api.ErrSkip)
			} else {
				s.hears(b, "bob", 0, uint32(7+ahead), "ahead")
			}
			if ahead == 0 {
				continue
			}
			s.hears(bob.letterAt(0, padByWords(1, []byte("next"))).signed(bob.seed), "bob", 0, 7, "next")
		}
	}
	s, bob := sits(t, "ann", 1, api.Config{Version: 1, Skip: 1000, Store: 2000}), speak("bob", 2)
	s.learns(bob.card())
	for _, n := range []uint32{1001, 1 << 16, 1 << 31, 1<<31 + 1, mostCount - 1} {
		l := bob.letterOf("far")
		l.n = n
		s.refuses("far too far", l.signed(bob.seed), x, api.PartRatchet, api.ErrSkip)
	}
}

// Store is how many are kept at most, of all cards.
func TestReceiveStore(t *testing.T) {
	s, bob, eve := sits(t, "ann", 1, api.Config{Version: 1, Skip: 9, Store: 4}), speak("bob", 2), speak("eve", 3)
	s.learns(bob.card())
	s.learns(eve.card())
	l, others := bob.saysAll(9), eve.saysAll(9)
	s.refuses("no room", l[5], x, api.PartRatchet, api.ErrStore)
	s.hears(l[3], "bob", 0, 3, "3")
	s.refuses("no room", l[6], x, api.PartRatchet, api.ErrStore)
	s.refuses("no room", others[2], x, api.PartRatchet, api.ErrStore)
	s.hears(others[1], "eve", 0, 1, "1")
	s.refuses("no room", others[3], x, api.PartRatchet, api.ErrStore)
	s.hears(others[2], "eve", 0, 2, "2") // it needs none
	s.hears(l[4], "bob", 0, 4, "4")
	s.refuses("no room", l[6], x, api.PartRatchet, api.ErrStore)
	s.hears(l[1], "bob", 0, 1, "1") // it makes some
	s.hears(others[4], "eve", 0, 4, "4")
	s.refuses("no room", l[6], x, api.PartRatchet, api.ErrStore)
	s.hears(others[0], "eve", 0, 0, "0")
	s.hears(l[6], "bob", 0, 6, "6")
	s.refuses("too far is told first", bob.letterAt(10, nil).signed(bob.seed), x, api.PartRatchet, api.ErrSkip)
	for _, n := range []int{5, 0, 2} {
		s.hears(l[n], "bob", 0, uint32(n), string(rune('0'+n)))
	}
	s.hears(others[3], "eve", 0, 3, "3")
	if len(s.w.spares) != 0 {
		t.Errorf("%d spares", len(s.w.spares))
	}
	none, bob := sits(t, "ann", 1, api.Config{Version: 1, Skip: 9}), speak("bob", 2)
	none.learns(bob.card())
	l = bob.saysAll(3)
	none.refuses("no room at all", l[1], x, api.PartRatchet, api.ErrStore)
	for n := range 3 {
		none.hears(l[n], "bob", 0, uint32(n), string(rune('0'+n)))
	}
}

// Spares that lie ahead of a chain, as only an import has them: each is its message's key, and the chain can't go over it.
func TestReceiveTwice(t *testing.T) {
	bob, eve := speak("bob", 2), speak("eve", 3)
	c := bob.cardPaper()
	w := speaks("ann", 1, api.Config{Version: 1, Skip: 6, Store: 3})
	w.others["bob"] = []known{{0, c.public, bob.key, 0}}
	w.others["eve"] = []known{{0, publicByWords(eve.seed), eve.key, 0}}
	key := api.Key{77}
	w.spares = []api.Spare{{Header: c.public, N: 2, Message: key}, {Header: publicByWords(eve.seed), N: 0, Message: key}}
	l := bob.saysAll(8)
	s := from(t, w)
	s.refuses("over a spare", l[3], x, api.PartRatchet, api.ErrTwice)
	s.refuses("over a spare, and no room", l[5], x, api.PartRatchet, api.ErrTwice)
	s.refuses("too far", l[7], x, api.PartRatchet, api.ErrSkip)
	s.refuses("the spare's key is another", l[2], x, api.PartBody, api.ErrBody)
	s.hears(l[1], "bob", 0, 1, "1")
	s.refuses("over a spare", l[3], x, api.PartRatchet, api.ErrTwice)
	own := letter{paper: bob.paper(), n: 2}
	own.box = boxByWords(key, own.bound(x), padByWords(1, []byte("by the spare")))
	s.hears(own.signed(bob.seed), "bob", 0, 2, "by the spare")
	s.hears(l[2], "bob", 0, 2, "2") // it comes by the chain, which never went over it
	s.hears(l[0], "bob", 0, 0, "0")
	s.hears(l[4], "bob", 0, 4, "4")
	s.hears(l[3], "bob", 0, 3, "3")
	s.refuses("over another one's spare", eve.letterAt(3, nil).signed(eve.seed), x, api.PartRatchet, api.ErrTwice)
}

// The spares are the public key's: two cards that have the same one share them.
func TestReceiveSharedKey(t *testing.T) {
	s := sit(t, "ann", 1)
	bob, card := cardOfSeed("bob", 0, 10, 0)
	s.learns(card)
	eve, card := cardOfSeed("eve", 0, 10, 0)
	s.learns(card)
	l, others := bob.saysAll(5), eve.saysAll(5)
	s.hears(l[3], "bob", 0, 3, "3")
	s.refuses("over another one's spare", others[3], x, api.PartRatchet, api.ErrTwice)
	s.hears(others[1], "eve", 0, 1, "1") // by the spare: the chains are alike
	s.refuses("the spare is gone", l[1], x, api.PartRatchet, api.ErrOld)
	s.refuses("over another one's spare", others[3], x, api.PartRatchet, api.ErrTwice)
	s.hears(others[0], "eve", 0, 0, "0")
	s.hears(others[0], "eve", 0, 0, "0") // by the chain now, which stands at 0 still
	s.hears(others[2], "eve", 0, 2, "2")
	s.hears(l[4], "bob", 0, 4, "4")
}

// N at the end: only a spare reads it.
func TestReceiveAtTheEnd(t *testing.T) {
	bob := speak("bob", 2)
	for _, num := range []uint32{0, mostCount - 3, mostCount - 1, mostCount} {
		w := speaks("ann", 1, api.Config{Version: 1, Skip: 6, Store: 3})
		public := publicByWords(bob.seed)
		w.others["bob"] = []known{{0, public, bob.key, num}}
		l := letter{paper: bob.paper(), n: mostCount}
		l.box = boxByWords(api.Key{8}, l.bound(x), padByWords(1, []byte("the end")))
		b := l.signed(bob.seed)
		from(t, w).refuses("the end", b, x, api.PartRatchet, api.ErrExhausted)
		if l.n--; num == mostCount {
			from(t, w).refuses("ahead of the end", l.signed(bob.seed), x, api.PartRatchet, api.ErrOld)
		}
		w.spares = []api.Spare{{Header: public, N: mostCount, Message: api.Key{8}}}
		s := from(t, w)
		s.hears(b, "bob", 0, mostCount, "the end")
		s.refuses("the end", b, x, api.PartRatchet, api.ErrExhausted)
	}
	bob.num = mostCount - 2
	s := sit(t, "ann", 1)
	s.learns(bob.card())
	l := bob.saysAll(2)
	s.hears(l[1], "bob", 0, mostCount-1, "1")
	s.refuses("the last again", l[1], x, api.PartRatchet, api.ErrOld)
	s.hears(l[0], "bob", 0, mostCount-2, "0")
	end := letter{paper: bob.paper(), n: mostCount, box: make([]byte, 16)}
	s.refuses("behind the last", end.signed(bob.seed), x, api.PartRatchet, api.ErrExhausted)
}

// Bodies that are none, by the chain and by a spare, which stays.
func TestReceiveBodies(t *testing.T) {
	for _, version := range []int{1, 2} {
		c := api.Config{Version: version, Skip: 5, Store: 9}
		s, bob := sits(t, "ann", 1, c), speaks("bob", 2, c)
		s.learns(bob.card())
		var bodies [][]byte
		for _, n := range []int{0, 1, 3, 4, 15, 16, 63, 65, 71, 127, 129, 1 << 12, 1<<12 + 1} {
			bodies = append(bodies, make([]byte, n))
		}
		good := padByWords(version, []byte("a text of no length"))
		for _, at := range []int{0, 1, 2, 3, 23, 24, 63} { // the length, and what stands behind the text
			bodies = append(bodies, turned(good, 8*at), turned(good, 8*at+7))
		}
		bodies = append(bodies, append(slices.Clone(good), 0), good[:len(good)-1], append(good[:60:60], good...))
		heard := 0
		tries := func(steps int) {
			for _, body := range bodies {
				b := bob.letterAt(steps, body).signed(bob.seed)
				if _, padded := unpadByWords(version, body); padded {
					continue // an empty text's body, 64 bytes 0 and so on, is one
				}
				heard++
				s.refuses("no body", b, x, api.PartPadding, api.ErrPadding)
			}
			for _, n := range []int{16, 17, 32, 80} {
				l := bob.letterAt(steps, good)
				l.box = make([]byte, n)
				s.refuses("no box", l.signed(bob.seed), x, api.PartBody, api.ErrBody)
				l = bob.letterAt(steps, good)
				l.box = l.box[:n-n%16]
				if n < 80 {
					s.refuses("a box that is cut", l.signed(bob.seed), x, api.PartBody, api.ErrBody)
				}
			}
		}
		tries(0)
		tries(3)
		s.hears(bob.letterAt(3, padByWords(version, []byte("skips"))).signed(bob.seed), "bob", 0, 3, "skips")
		tries(1)
		s.hears(bob.letterAt(1, good).signed(bob.seed), "bob", 0, 1, "a text of no length")
		if heard < 60 {
			t.Errorf("%d bodies only", heard)
		}
	}
}

// The versions have other buckets: a body of the other one's is none.
func TestReceiveOtherVersion(t *testing.T) {
	one, two := api.Config{Version: 1, Skip: 5, Store: 9}, api.Config{Version: 2, Skip: 5, Store: 9}
	for _, c := range [][2]api.Config{{one, two}, {two, one}} {
		s, bob := sits(t, "ann", 1, c[0]), speaks("bob", 2, c[1])
		s.learns(bob.card())
		s.hears(bob.says("short"), "bob", 0, 0, "short") // 64 bytes in both
		s.refuses("another bucket", bob.says(strings.Repeat("a", 130)), x, api.PartPadding, api.ErrPadding)
	}
}

// Bytes that no message are.
func TestReceiveBytes(t *testing.T) {
	s, bob := sit(t, "ann", 1), speak("bob", 2)
	bob.gen, bob.num = 0x08070605, 0x04030201
	s.learns(bob.card())
	b := bob.letterOf("text").signed(bob.seed)
	s.refuses("no bytes", nil, x, api.PartEnvelope, &api.Fault{Why: api.ErrSlots})
	s.refuses("far too long", make([]byte, 1<<22+1), x, api.PartEnvelope, &api.Fault{Why: api.ErrLong})
	for _, other := range [][2]int{{0, 31}, {0, 33}, {34, 0}, {34, 17}, {131, 63}, {131, 65}} { // the id, the name, the signature
		s.refuses("another size", sized(b, other[0], other[1]), x, api.PartEnvelope, &api.Fault{At: other[0], Why: api.ErrRange})
	}
	found := map[api.Errno]int{}
	take := func(b []byte) error {
		_, err := s.receive(b, x)
		if err == nil {
			t.Fatalf("%x is heard", b)
		}
		if f, is := err.(*api.Wrap).Err.(*api.Fault); is {
			found[f.Why]++
		}
		return err
	}
	for at := range b {
		take(b[:at])
		for _, more := range []byte{0, 0x11, 0x80} {
			if c := slices.Insert(slices.Clone(b), at, more); !bytes.Equal(c, b) {
				take(c)
			}
		}
		take(slices.Delete(slices.Clone(b), at, at+1))
	}
	for _, at := range []int{0, 1, 34, 35, 39, 44, 49, 50, 131, 132} { // heads, and numbers of bytes
		for to := range 256 {
			if to != int(b[at]) {
				c := slices.Clone(b)
				c[at] = byte(to)
				take(c)
			}
		}
	}
	for to := range 256 {
		take(append(slices.Clone(b), byte(to)))
		take(append(slices.Clone(b), byte(to), 0))
	}
	for _, e := range []api.Errno{api.ErrRange, api.ErrSlots, api.ErrKind, api.ErrCut, api.ErrOrder, api.ErrType, api.ErrNumber} {
		if found[e] == 0 {
			t.Errorf("nothing is answered %v", e)
		}
	}
	s.hears(b, "bob", 0x08070605, 0x04030201, "text")
}

// A box has from 16 to 2097168 bytes.
func TestReceiveBoxes(t *testing.T) {
	s, bob := sit(t, "ann", 1), speak("bob", 2)
	s.learns(bob.card())
	for _, n := range []int{0, 1, 15, 16, 17, mostBox - 1, mostBox, mostBox + 1, mostBox + 64} {
		l := bob.letterOf("text")
		l.box = make([]byte, n)
		b := l.with(make([]byte, 64))
		if n < 16 || n > mostBox {
			s.refuses("a box out of its range", b, x, api.PartEnvelope, &api.Fault{At: 49, Why: api.ErrRange})
		} else {
			s.refuses("a box in its range", b, x, api.PartHeader, api.ErrSignature)
		}
	}
	l := bob.letterOf("text")
	l.box = make([]byte, mostBox)
	s.refuses("the greatest box", l.signed(bob.seed), x, api.PartBody, api.ErrBody)
}
