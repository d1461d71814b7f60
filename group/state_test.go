package group_test

import (
	"bytes"
	"errors"
	"slices"
	"strings"
	"testing"

	"pawl/api"
	"pawl/group"
)

// P24.8: what is laid down, and taken up again.

// checkImport holds Import against the words; what it takes, Export makes again. It answers why b is refused.
func checkImport(t *testing.T, b []byte) error {
	t.Helper()
	w, want := importByWords(b)
	g, err := group.Import(b)
	if !sameError(err, want) || (g != nil) != (want == nil) {
		t.Fatalf("Import(%.900x): %v, %v, not %v", b, g != nil, err, want)
	}
	if g != nil {
		if got := g.Export(); !bytes.Equal(got, b) || !bytes.Equal(w.export(), b) {
			t.Fatalf("Import(%.900x): Export makes %.900x", b, got)
		}
		return nil
	}
	return want.(*api.Wrap).Err
}

// imports holds that b is refused for this reason, if there is one.
func imports(t *testing.T, what string, b []byte, why error) {
	t.Helper()
	got := checkImport(t, b)
	if why == nil && got == nil {
		return
	}
	if got == nil || why == nil || !sameError(wrap(0, got), wrap(0, why)) {
		t.Errorf("%s: %v, not %v", what, got, why)
	}
}

// peopleOf is a side that knows these, in two generations, each with a spare of each.
func peopleOf(names ...string) *side {
	w := speak("eve", 1)
	for i, name := range names {
		elder, newer := api.Key{byte(i), 1}, api.Key{byte(i), 2}
		w.others[name] = []known{{9, newer, api.Key{byte(i), 3}, 5}, {7, elder, api.Key{byte(i), 4}, 6}}
		w.spares = append(w.spares, api.Spare{Header: newer, N: 4, Message: api.Key{byte(i), 5}}, api.Spare{Header: elder, N: 4, Message: api.Key{byte(i), 6}})
	}
	return w
}

func TestImport(t *testing.T) {
	for _, c := range []api.Config{{Version: 1}, {Version: 2}, {Version: 1, Skip: 127, Store: 128}, {Version: 2, Skip: 1000, Store: 2000}, {Version: 1, Skip: 128, Store: 127}} {
		for _, me := range []string{"a", "abcdefghijklmnop"} {
			w := speaks(me, 1, c)
			for _, n := range []uint32{0, 1, 0x04030201, mostCount} {
				w.gen, w.num = n, n
				from(t, w)
			}
		}
	}
	for n := range 5 {
		w := peopleOf([]string{"ann", "bob", "evee", "zoe"}[:n]...)
		from(t, w)
		for name, cards := range w.others {
			w.others[name] = cards[:1]
		}
		w.spares = slices.DeleteFunc(w.spares, func(x api.Spare) bool { return !w.has(x.Header) })
		from(t, w)
	}
}

// The greatest state: all others with two cards, as many spares as there can be.
func TestImportFull(t *testing.T) {
	w := speaks("abcdefghijklmnop", 1, api.Config{Version: 2, Skip: 1000, Store: 2000})
	w.gen, w.num = mostCount, mostCount
	var publics []api.Key
	for i := range mostMembers - 1 {
		elder, newer := api.Key{byte(i), 1}, api.Key{byte(i), 2}
		name := strings.Repeat("z", 14) + string(rune('a'+i%26)) + string(rune('a'+i/26))
		w.others[name] = []known{{mostCount, newer, api.Key{9}, mostCount}, {mostCount - 1, elder, api.Key{8}, mostCount}}
		publics = append(publics, newer, elder)
	}
	for i := range mostStore {
		w.spares = append(w.spares, api.Spare{Header: publics[i%len(publics)], N: mostCount - uint32(i), Message: api.Key{byte(i), byte(i >> 8)}})
	}
	s := from(t, w)
	if n := len(s.g.Members()); n != mostMembers {
		t.Fatalf("%d members", n)
	}
	b := w.export()
	last := w.spares[len(w.spares)-1]
	w.spares = append(w.spares, api.Spare{Header: last.Header, N: 5, Message: api.Key{5}})
	var f *api.Fault
	if err := checkImport(t, w.export()); !errors.As(err, &f) || f.Why != api.ErrRange {
		t.Errorf("2001 spares: %v", err)
	}
	w.spares = w.spares[:mostStore]
	w.spares[mostStore-1] = w.spares[0]
	imports(t, "the first spare again", w.export(), api.ErrExport)
	w.spares[mostStore-1] = last
	w.others["new"] = []known{{0, api.Key{}, api.Key{}, 0}}
	if err := checkImport(t, w.export()); !errors.As(err, &f) || f.Why != api.ErrRange {
		t.Errorf("32 others: %v", err)
	}
	imports(t, "as it was", b, nil)
}

// Each way in which a state can't be.
func TestImportRefused(t *testing.T) {
	for what, change := range map[string]func(w *side){
		"one's own name is none":         func(w *side) { w.me = "Eve" },
		"another one's name is none":     func(w *side) { w.others["Bob"] = w.others["bob"]; delete(w.others, "bob") },
		"one's own name among them":      func(w *side) { w.others["eve"] = w.others["bob"] },
		"one's own name is another's":    func(w *side) { w.me = "bob" },
		"elder cards of one generation":  func(w *side) { w.others["bob"][1].gen = 9 },
		"an elder card that is newer":    func(w *side) { w.others["zoe"][1].gen = 10 },
		"an elder card that is the last": func(w *side) { w.others["ann"][1].gen = mostCount },
		"more spares than Store":         func(w *side) { w.config.Store = 5 },
		"many more spares than Store":    func(w *side) { w.config.Store = 0 },
		"two spares meet":                func(w *side) { w.spares[3].Header = w.spares[2].Header },
		"two spares meet, far apart":     func(w *side) { w.spares[5].Header = w.spares[0].Header },
		"a spare twice":                  func(w *side) { w.spares = append(w.spares, w.spares[1]) },
		"the first spare is of no card":  func(w *side) { w.spares[0].Header[31] = 1 },
		"one is of no card":              func(w *side) { w.spares[3].Header = api.Key{} },
		"the last one is of no card":     func(w *side) { w.spares[5].Header[2] = 1 },
		"one is of a chain's key":        func(w *side) { w.spares[2].Header = w.others["bob"][0].key },
		"one is of one's own card":       func(w *side) { w.spares[2].Header = publicByWords(w.seed) },
		"one is of a card that is gone":  func(w *side) { w.others["bob"] = w.others["bob"][:1] },
		"a member of spares is gone":     func(w *side) { delete(w.others, "ann") },
	} {
		w := peopleOf("ann", "bob", "zoe")
		change(w)
		imports(t, what, w.export(), api.ErrExport)
	}
	for what, change := range map[string]func(w *side){
		"nothing":                      func(w *side) {},
		"the elder card is just elder": func(w *side) { w.others["bob"][1].gen = 8 },
		"the elder card is the first":  func(w *side) { w.others["bob"][1].gen = 0 },
		"as many spares as Store":      func(w *side) { w.config.Store = 6 },
		"cards with one public key": func(w *side) {
			w.others["bob"][0].public = w.others["ann"][0].public
			w.spares[2].Header[0] = 0
			w.spares[2].N = 1
		},
		"a card with one's own key": func(w *side) {
			w.others["bob"][0].public = publicByWords(w.seed)
			w.spares[2].Header = publicByWords(w.seed)
		},
		"a spare ahead of its chain":    func(w *side) { w.spares[2].N = 1000 },
		"a spare at the end":            func(w *side) { w.spares[2].N = mostCount },
		"spares of one number":          func(w *side) { w.spares[1].N = 4; w.spares[0].N = 4 },
		"spares with one message's key": func(w *side) { w.spares[1].Message = w.spares[0].Message },
		"names that are near one's own": func(w *side) { w.me = "anna" },
		"no spares":                     func(w *side) { w.spares = nil; w.config.Store = 0 },
		"a name that is longer by one":  func(w *side) { w.others["bobb"] = w.others["bob"] },
		"all zeros":                     func(w *side) { *w = side{config: api.Config{Version: 1}, me: "a"} },
		"public keys that sign nothing": func(w *side) { w.others["carl"] = []known{{}} },
	} {
		w := peopleOf("ann", "bob", "zoe")
		change(w)
		imports(t, what, w.export(), nil)
	}
}

// The names rise, and each stands once.
func TestImportOrder(t *testing.T) {
	w := speak("eve", 1)
	one := known{1, api.Key{1}, api.Key{2}, 3}
	two := known{0, api.Key{4}, api.Key{5}, 6}
	bytesOf := func(names ...string) []byte {
		var l [][]byte
		for _, name := range names {
			l = append(l, memberBytes(name, one, two))
		}
		return slices.Concat(w.ownBytes(), listField(0x52, l...), listField(0x5a))
	}
	for _, names := range [][]string{{}, {"a"}, {"a", "b"}, {"a", "aa", "ab", "b", "evf", "z"}, {"evd", "evee"}, {"z"}, {"abcdefghijklmnop"}} {
		imports(t, strings.Join(names, " "), bytesOf(names...), nil)
	}
	for _, names := range [][]string{{"a", "a"}, {"b", "a"}, {"aa", "a"}, {"a", "c", "b"}, {"a", "b", "a"}, {"eve"}, {"a", "eve", "z"}, {"Z", "a"}, {"a", "Z"}, {"a b"}, {"a", "b", "c", "c"}, {"a", "b{"}, {"`"}} {
		imports(t, strings.Join(names, " "), bytesOf(names...), api.ErrExport)
	}
	for _, name := range []string{"", strings.Repeat("a", 17)} { // behind the heads of the list and of its item
		imports(t, "a name of another length", bytesOf(name), &api.Fault{At: len(w.ownBytes()) + 5, Why: api.ErrRange})
	}
	for n, cards := range [][]known{{}, {one}, {one, two}, {one, two, two}} {
		var f *api.Fault
		err := checkImport(t, slices.Concat(w.ownBytes(), listField(0x52, memberBytes("a", cards...)), listField(0x5a)))
		if n == 1 || n == 2 {
			if err != nil {
				t.Errorf("%d cards: %v", n, err)
			}
		} else if !errors.As(err, &f) || f.Why != api.ErrRange {
			t.Errorf("%d cards: %v", n, err)
		}
	}
}

// Bytes that no state are: the ranges of the first slots, and what every place of a state can have.
func TestImportBytes(t *testing.T) {
	w := peopleOf("bob")
	rest := func(w *side) []byte { return w.export()[6:] }
	for _, version := range []int{0, 3, 127, 128, 257} {
		imports(t, "a version", slices.Concat(numberField(0x08, version), []byte{0x10, 5, 0x18, 9}, rest(w)), &api.Fault{Why: api.ErrRange})
	}
	imports(t, "Skip", slices.Concat([]byte{8, 1}, numberField(0x10, 1001), []byte{0x18, 9}, rest(w)), &api.Fault{At: 2, Why: api.ErrRange})
	imports(t, "Store", slices.Concat([]byte{8, 1, 0x10, 5}, numberField(0x18, 2001), rest(w)), &api.Fault{At: 4, Why: api.ErrRange})
	imports(t, "Skip", slices.Concat([]byte{8, 1}, numberField(0x10, 1000), []byte{0x18, 9}, rest(w)), nil)
	imports(t, "Store", slices.Concat([]byte{8, 1, 0x10, 5}, numberField(0x18, 2000), rest(w)), nil)
	imports(t, "no bytes", nil, &api.Fault{Why: api.ErrSlots})
	imports(t, "far too long", make([]byte, 1<<22+1), &api.Fault{Why: api.ErrLong})
	b := w.export()
	imports(t, "a version of four bytes", slices.Concat([]byte{0x0d, 1, 0, 0, 0}, b[2:]), &api.Fault{Why: api.ErrKind})
	imports(t, "spares that are a number", append(slices.Clone(b[:len(b)-151]), 0x58, 0), &api.Fault{At: len(b) - 151, Why: api.ErrKind})
	imports(t, "a byte more", append(slices.Clone(b), 0), &api.Fault{At: len(b), Why: api.ErrOrder})
	imports(t, "a field more", append(slices.Clone(b), 0x60, 0), &api.Fault{At: len(b), Why: api.ErrSlots})
	own := w.ownBytes()
	for _, n := range []int{0, 1, 31, 33} {
		for _, at := range []int{6, 50, 89} { // the id, the chain's key, the seed
			imports(t, "another size", sized(b, at, n), &api.Fault{At: at, Why: api.ErrRange})
		}
		card := slices.Concat(countField(0x0d, 1), keyField(0x12, api.Key{}), keyField(0x1a, api.Key{}), countField(0x25, 1))
		for _, at := range []int{5, 39} { // a card's public key, its chain's
			item := listField(0x12, sized(card, at, n))
			one := slices.Concat(own, listField(0x52, append(bytesField(0x0a, []byte("bob")), item...)), listField(0x5a))
			imports(t, "another size of a card's", one, &api.Fault{At: len(own) + 3 + 5 + 3 + at, Why: api.ErrRange})
		}
		spare := slices.Concat(keyField(0x0a, api.Key{}), countField(0x15, 1), keyField(0x1a, api.Key{}))
		for _, at := range []int{0, 39} { // a spare's header key, its message's
			one := slices.Concat(own, listField(0x52), listField(0x5a, sized(spare, at, n)))
			imports(t, "another size of a spare's", one, &api.Fault{At: len(own) + 2 + 3 + at, Why: api.ErrRange})
		}
	}
	found := map[error]int{}
	count := func(err error) {
		if f, is := err.(*api.Fault); is {
			err = f.Why
		}
		found[err]++
	}
	for at := range b {
		if checkImport(t, b[:at]) == nil {
			t.Fatalf("the first %d bytes are a state", at)
		}
		for _, more := range []byte{0, 1, 0x11, 'a', 0x80} {
			count(checkImport(t, slices.Insert(slices.Clone(b), at, more)))
		}
		count(checkImport(t, slices.Delete(slices.Clone(b), at, at+1)))
		for _, to := range []byte{0, 1, 0x7f, 0xff, b[at] + 1, b[at] - 1, b[at] ^ 1, b[at] ^ 2, b[at] ^ 4, b[at] ^ 0x80} {
			c := slices.Clone(b)
			c[at] = to
			count(checkImport(t, c))
		}
	}
	for _, e := range []error{nil, api.ErrExport, api.ErrRange, api.ErrSlots, api.ErrCut, api.ErrOrder, api.ErrType, api.ErrNumber, api.ErrForm} {
		if found[e] == 0 {
			t.Errorf("nothing is answered %v", e)
		}
	}
}
