package group_test

import (
	"bytes"
	"fmt"
	"math/rand"
	"slices"
	"testing"

	"pawl/api"
	"pawl/group"
)

// P24.9 to P24.12: what many calls come to, one behind the other.

// sent is a message on its way, and what it says.
type sent struct {
	b, extra []byte
	said     api.Said
}

// town is some members who hand each other cards and messages, and what was ever said and shown.
type town struct {
	*rand.Rand
	t     *testing.T
	seats []*seat
	cards [][]byte
	said  []sent
	seeds byte
	found map[error]int
}

func newTown(t *testing.T, seed int64, people int, found map[error]int) *town {
	t.Helper()
	w := &town{Rand: rand.New(rand.NewSource(seed)), t: t, found: found}
	version := 1 + int(seed%2)
	for i := range people {
		c := api.Config{Version: version, Skip: w.Intn(5), Store: w.Intn(7)}
		w.seats = append(w.seats, sits(t, []string{"ann", "bob", "carl", "dan", "eve"}[i], w.seed()[3], c))
	}
	return w
}

// seed is a new one each time.
func (w *town) seed() []byte {
	w.seeds++
	return seedOf(w.seeds)
}

func (w *town) someone() *seat { return w.seats[w.Intn(len(w.seats))] }

// count keeps what was answered.
func (w *town) count(err error) {
	if x, is := err.(*api.Wrap); is {
		err = x.Err
	}
	if f, is := err.(*api.Fault); is {
		err = f.Why
	}
	w.found[err]++
}

// one makes one call that is drawn, and holds it against the words.
func (w *town) one() {
	w.t.Helper()
	s := w.someone()
	switch n := w.Intn(24); {
	case n < 1:
		w.count(s.renew(w.seed()))
	case n < 2:
		w.count(s.remove([]string{"ann", "bob", "carl", "dan", "eve", "fay"}[w.Intn(6)], w.seed()))
	case n < 4:
		w.cards = append(w.cards, s.w.card())
	case n < 8:
		if len(w.cards) > 0 {
			w.count(s.learn(w.spoilt(w.cards[w.late(len(w.cards))])))
		}
	case n < 12:
		w.says(s)
	case n < 13:
		w.again(s)
	default:
		if len(w.said) > 0 {
			w.takes(s, w.said[w.late(len(w.said))])
		}
	}
}

// late is one of so many places, more often one of the last.
func (w *town) late(n int) int { return n - 1 - min(w.Intn(n), w.Intn(n), w.Intn(n)) }

// spoilt is b, now and then with a bit turned.
func (w *town) spoilt(b []byte) []byte {
	if w.Intn(12) > 0 {
		return b
	}
	return turned(b, w.Intn(8*len(b)))
}

func (w *town) says(s *seat) {
	plain, extra := make([]byte, w.Intn(90)), make([]byte, w.Intn(3))
	w.Read(plain)
	w.Read(extra)
	said := api.Said{Member: s.w.me, Gen: s.w.gen, N: s.w.num, Plain: plain}
	b, err := s.send(plain, extra)
	w.count(err)
	w.said = append(w.said, sent{b, extra, said})
}

// takes hands a message to somebody, and holds that what is heard is what was said.
func (w *town) takes(s *seat, m sent) {
	w.t.Helper()
	extra := m.extra
	if w.Intn(15) == 0 {
		extra = append([]byte{1}, extra...)
	}
	b := w.spoilt(m.b)
	got, err := s.receive(b, extra)
	w.count(err)
	if err == nil && (!sameSaid(got, m.said) || !bytes.Equal(b, m.b) || !bytes.Equal(extra, m.extra)) {
		w.t.Fatalf("%v is heard, where %v was said", got, m.said)
	}
}

// again lays a group down and goes on with what is taken up.
func (w *town) again(s *seat) {
	w.t.Helper()
	g, err := group.Import(s.g.Export())
	if err != nil {
		w.t.Fatalf("Import: %v", err)
	}
	s.g, s.shown = g, cardPaper{}
	s.stands("behind Import")
}

func TestRuns(t *testing.T) {
	found := map[error]int{}
	for seed := range int64(24) {
		w := newTown(t, 2400+seed, 2+int(seed)%4, found)
		for range 110 {
			w.one()
		}
	}
	for _, e := range []error{nil, api.OK, api.ErrSelf, api.ErrMember, api.ErrElder, api.ErrCard, api.ErrForeign, api.ErrSignature, api.ErrOld, api.ErrSkip, api.ErrStore, api.ErrBody} {
		if found[e] < 3 {
			t.Errorf("%v is answered %d times", e, found[e])
		}
	}
}

// P24.9: whoever took the card hears all from there on, in whatever order, once; the elder card's too.
func TestHeard(t *testing.T) {
	c := api.Config{Version: 2, Skip: 40, Store: 60}
	for seed := range int64(4) {
		r := rand.New(rand.NewSource(2430 + seed))
		bob := sits(t, "bob", 50, c)
		var said []sent
		listeners := map[int]*seat{} // by how much was said ahead of the card
		for i := range 16 {
			if i%5 == 0 {
				s := sits(t, "ann", byte(60+i), c)
				s.learns(bob.w.card())
				listeners[i] = s
			}
			if i == 9 {
				must(t, "Renew", bob.renew(seedOf(51)))
				for _, s := range listeners {
					s.learns(bob.w.card())
				}
			}
			m := sent{extra: fmt.Append(nil, r.Intn(3)), said: api.Said{Member: "bob", Gen: bob.w.gen, N: bob.w.num, Plain: fmt.Append(nil, "text ", i)}}
			var err error
			if m.b, err = bob.send(m.said.Plain, m.extra); err != nil {
				t.Fatal(err)
			}
			said = append(said, m)
		}
		for from, s := range listeners {
			for _, i := range r.Perm(len(said)) {
				got, err := s.receive(said[i].b, said[i].extra)
				if i < from {
					if err == nil {
						t.Fatalf("what was said ahead of the card is heard: %v", got)
					}
					continue
				}
				if err != nil || !sameSaid(got, said[i].said) {
					t.Fatalf("%v, %v, not %v", got, err, said[i].said)
				}
				s.refuses("a second time", said[i].b, said[i].extra, api.PartRatchet, api.ErrOld)
			}
			if len(s.w.spares) != 0 {
				t.Errorf("%d spares are left", len(s.w.spares))
			}
		}
	}
}

// P24.10: without a new card nothing is read that is said behind a Renew or a Remove, though all that was said before is.
func TestGone(t *testing.T) {
	bob, carl, ann := sit(t, "bob", 1), sit(t, "carl", 2), sit(t, "ann", 3)
	for _, s := range []*seat{carl, ann} {
		s.learns(bob.w.card())
		bob.learns(s.w.card())
	}
	send := func(plain string) []byte {
		b, err := bob.send([]byte(plain), x)
		if err != nil {
			t.Fatal(err)
		}
		return b
	}
	before := send("before")
	for i := range 4 {
		if i%2 == 0 {
			must(t, "Renew", bob.renew(seedOf(byte(10+i))))
		} else {
			must(t, "Remove", bob.remove([]string{"ann", "carl"}[i/2], seedOf(byte(10+i))))
		}
		ann.learns(bob.w.card())
		b := send("behind")
		carl.refuses("behind", b, x, api.PartRatchet, api.ErrMember)
		ann.hears(b, "bob", uint32(i+1), 0, "behind")
	}
	carl.hears(before, "bob", 0, 0, "before")
	ann.refuses("a card that is gone", before, x, api.PartRatchet, api.ErrMember)
}

// P24.11: a member who took another one's card has the chain's key, and can make the box, but speaks for nobody.
func TestNobodySpeaksForAnother(t *testing.T) {
	ann, bob, eve := sit(t, "ann", 1), speak("bob", 2), speak("eve", 3)
	ann.learns(bob.card())
	ann.learns(eve.card())
	for n := range 5 {
		for _, seed := range []api.Key{eve.seed, eve.key, bob.key, {}, api.Key(seedOf(2)), publicByWords(bob.seed)} {
			l := bob.letterAt(n, padByWords(1, []byte("I am bob")))
			ann.refuses("another's", l.signed(seed), x, api.PartHeader, api.ErrSignature)
			c := bob.cardPaper()
			c.gen, c.key = uint32(1+n), eve.key
			ann.refusesCard("another's", c.signed(seed), api.PartArgs, api.ErrCard)
		}
	}
	ann.hears(bob.letterAt(4, padByWords(1, []byte("I am"))).signed(bob.seed), "bob", 0, 4, "I am")
}

// P24.12: what is taken up again answers each further call alike, and lays down the same bytes.
func TestGoesOnAlike(t *testing.T) {
	for seed := range int64(6) {
		w := newTown(t, 2450+seed, 3, map[error]int{})
		for range 60 {
			w.one()
		}
		var twins []*group.Group
		for _, s := range w.seats {
			g, err := group.Import(s.g.Export())
			if err != nil || g.Gen() != s.g.Gen() || !slices.Equal(g.Members(), s.g.Members()) || !bytes.Equal(g.Card(), s.g.Card()) {
				t.Fatalf("Import: %v", err)
			}
			twins = append(twins, g)
		}
		for range 40 {
			i := w.Intn(3)
			s, g := w.seats[i], twins[i]
			switch w.Intn(8) {
			case 0:
				seed := w.seed()
				if a, b := s.renew(seed), g.Renew(seed); a != b {
					t.Fatalf("Renew: %v and %v", a, b)
				}
			case 1, 2:
				card := w.someone().w.card()
				if a, b := s.learn(card), g.Learn(card); !sameError(b, a) {
					t.Fatalf("Learn: %v and %v", a, b)
				}
			case 3, 4:
				w.says(s)
				m := w.said[len(w.said)-1]
				if b, err := g.Send(m.said.Plain, m.extra); err != nil || !bytes.Equal(b, m.b) {
					t.Fatalf("Send: %v", err)
				}
			default:
				m := w.said[w.late(len(w.said))]
				one, bad := s.receive(m.b, m.extra)
				if two, err := g.Receive(m.b, m.extra); !sameError(err, bad) || !sameSaid(one, two) {
					t.Fatalf("Receive: %v and %v", bad, err)
				}
			}
			if !bytes.Equal(g.Export(), s.g.Export()) {
				t.Fatal("Export is another one")
			}
		}
	}
}
