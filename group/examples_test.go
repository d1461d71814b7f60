package group_test

import (
	"bytes"
	"encoding/hex"
	"slices"
	"strings"
	"testing"

	"pawl/api"
	"pawl/group"
)

// The examples of the chapter.

func three(t *testing.T) (ann, bob, carl *seat) {
	t.Helper()
	return sit(t, "ann", 1), sit(t, "bob", 2), sit(t, "carl", 3)
}

func TestExampleHeard(t *testing.T) {
	ann, bob, carl := three(t)
	ann.learns(bob.g.Card())
	bob.learns(ann.g.Card())
	if got := ann.g.Members(); !slices.Equal(got, []string{"ann", "bob"}) {
		t.Errorf("Members: %v", got)
	}
	b, err := bob.send([]byte("the text"), x)
	if err != nil {
		t.Fatal(err)
	}
	ann.hears(b, "bob", 0, 0, "the text")
	ann.refuses("again", b, x, api.PartRatchet, api.ErrOld)
	carl.refuses("without the card", b, x, api.PartRatchet, api.ErrMember)
}

func TestExampleCards(t *testing.T) {
	ann, bob, _ := three(t)
	ann.refusesCard("one's own", ann.g.Card(), api.PartArgs, api.ErrSelf)
	card := bob.g.Card()
	at := bytes.Index(card, bob.w.key[:])
	for bit := range 256 {
		ann.refusesCard("a bit of the key turned", turned(card, 8*at+bit), api.PartArgs, api.ErrCard)
	}
	ann.learns(card)
	ann.refusesCard("again", bob.g.Card(), api.PartRatchet, api.ErrElder)
}

func TestExampleRemove(t *testing.T) {
	ann, bob, carl := three(t)
	for _, s := range []*seat{ann, bob, carl} {
		for _, other := range []*seat{ann, bob, carl} {
			if s != other {
				s.learns(other.g.Card())
			}
		}
	}
	elder, _ := bob.send([]byte("elder"), x)
	must(t, "Remove", bob.remove("carl", seedOf(9)))
	if got := bob.g.Gen(); got != 1 {
		t.Errorf("Gen: %d", got)
	}
	card := bob.g.Card()
	newer, _ := bob.send([]byte("newer"), x)
	ann.refuses("without the new card", newer, x, api.PartRatchet, api.ErrMember)
	ann.learns(card)
	ann.hears(newer, "bob", 1, 0, "newer")
	ann.hears(elder, "bob", 0, 0, "elder")
	carl.hears(elder, "bob", 0, 0, "elder")
	carl.refuses("removed", newer, x, api.PartRatchet, api.ErrMember)
}

func TestExampleExport(t *testing.T) {
	g, e := group.New(here, "ann", seedOf(1), good)
	must(t, "New", e)
	key, seed := givenByWords(seedOf(1))
	digits := func(k api.Key) string { return hex.EncodeToString(k[:]) }
	want := "08 01 10 05 18 09 22 20" + digits(here) + "2a 03 61 6e 6e 35 00 00 00 00 3a 20" + digits(key) + "45 00 00 00 00 4a 20" + digits(seed) + "52 00 5a 00"
	if got := hex.EncodeToString(g.Export()); got != strings.ReplaceAll(want, " ", "") {
		t.Errorf("Export: %s", got)
	}
}
