package audit

// mark stands for a key. Two are the same number just if they are made alike, of the same things.
type mark int

// none is the mark of nothing, and no key's.
const none mark = 0

// What marks are made as.
const (
	aPair = iota
	aSecret
	aShared
	aHeaderA
	aHeaderB
	aRoot
	aChain
	aHeader
)

// making is what a mark is made as, and of what: of a word, or of one or two other marks.
type making struct {
	what     int
	word     string
	of, with mark
}

// marks are all that were made, each under its making.
type marks map[making]mark

func (m marks) made(x making) mark {
	if _, is := m[x]; !is {
		m[x] = mark(len(m) + 1)
	}
	return m[x]
}

// pair is the mark of the pair that a word gives.
func (m marks) pair(word string) mark { return m.made(making{what: aPair, word: word}) }

// both is that of what two pairs share, whoever reckons it.
func (m marks) both(p, q mark) mark {
	return m.made(making{what: aSecret, of: min(p, q), with: max(p, q)})
}

// begun are the three with which two begin: the root, and the header keys of both directions.
func (m marks) begun() (shared, headerA, headerB mark) {
	return m.made(making{what: aShared}), m.made(making{what: aHeaderA}), m.made(making{what: aHeaderB})
}

// turned are the three that a root and what two pairs share give: the next root, a chain, and the header key behind that one.
func (m marks) turned(root, both mark) (next, chain, header mark) {
	of := func(what int) mark { return m.made(making{what: what, of: root, with: both}) }
	return of(aRoot), of(aChain), of(aHeader)
}
