package audit

import (
	"pawl/api"
	"pawl/content"
	"pawl/envelope"
	"pawl/script"
)

const (
	alice = "alice"
	bob   = "bob"
)

// Where the nonce and the header's box stand in an envelope's bytes.
const (
	nonceFirst, nonceLast   = 4, 19
	headerFirst, headerLast = 22, 81
)

// knowledge is what is known beside a trace: the two, each under their name; the envelopes that were sent, number 1 first; the sides that are kept, each under its name; and the exports that were told. A side and an envelope that are unknown are nil.
type knowledge struct {
	marks     marks
	sides     map[string]*side
	envelopes []*sealed
	kept      map[string]*side
	exports   []exported
}

// exported is what an export told of a known side.
type exported struct {
	side *side
	sum  string
}

// outcome is what comes of a command: the answer that must come (none: what is told is believed); where a known side sends, how many bytes its envelope has; and what is done then, unless the command was refused.
type outcome struct {
	must answer
	size int
	then func()
}

func newKnowledge() knowledge {
	return knowledge{marks: marks{}, sides: map[string]*side{}, kept: map[string]*side{}}
}

// has: there is an envelope of the number that a command names. keeps: something is kept under the name that it names.
func (k *knowledge) has(args []string) bool {
	n := script.Int(args[0])
	return n >= 1 && n <= len(k.envelopes)
}

func (k *knowledge) keeps(args []string) bool {
	_, is := k.kept[args[1]]
	return is
}

// becomes puts a side in the place of the one of that name.
func (k *knowledge) becomes(name string, s *side) func() {
	return func() { k.sides[name] = s }
}

func (k *knowledge) begin(args []string) outcome {
	c := api.Config{Version: script.Int(args[0]), Skip: script.Int(args[1]), Store: script.Int(args[2])}
	signed := k.marks.pair(args[3] + "/signed")
	shared, headerA, headerB := k.marks.begun()
	hers := standing{config: c, root: shared, peer: signed, turn: true, nextSend: headerA, nextRecv: headerB}
	his := standing{config: c, root: shared, own: signed, nextSend: headerB, nextRecv: headerA}
	return outcome{then: func() {
		k.sides[alice], k.sides[bob] = &side{standing: hers}, &side{standing: his}
	}}
}

func (k *knowledge) send(args []string) outcome {
	c, _, _ := content.Parse(args[2]) // OK: it was parsed with the script
	plain, _ := content.Encode(c)     // nil: whatever is parsed is a content
	return k.post(args[0], args[1], plain)
}

func (k *knowledge) bytes(args []string) outcome {
	return k.post(args[0], args[1], script.Bytes(args[2]))
}

// post has a side send a plain text, with the pair of a word.
func (k *knowledge) post(name, word string, plain []byte) outcome {
	by := k.sides[name]
	if by == nil {
		return outcome{then: func() { k.envelopes = append(k.envelopes, nil) }}
	}
	// OK, both: a line of a script has no room for a plain text that is too long.
	size, _ := envelope.Length(by.config.Version, len(plain))
	bucket, _ := envelope.Bucket(by.config.Version, len(plain))
	next, e, ok := by.write(k.marks, word)
	if !ok {
		return outcome{must: tell(refused, api.PartRatchet, int(api.ErrSilent)), size: size}
	}
	e.plain, e.size, e.box = plain, size, bucket+api.TagSize
	return outcome{must: tell(sent, len(k.envelopes)+1, size), size: size, then: func() {
		k.sides[name] = next
		k.envelopes = append(k.envelopes, &e)
	}}
}

func (k *knowledge) give(args []string) outcome {
	return k.pass(args, func(*sealed) {})
}

func (k *knowledge) turn(args []string) outcome {
	return k.pass(args, func(e *sealed) {
		at := script.Int(args[1]) % (8 * e.size) / 8
		switch {
		case at >= nonceFirst && at <= nonceLast, at >= headerFirst && at <= headerLast:
			e.header = none
		case at >= e.size-e.box:
			e.chain = none
		default:
			e.torn = true
		}
	})
}

func (k *knowledge) cut(args []string) outcome {
	return k.pass(args, func(e *sealed) { e.torn = script.Int(args[1]) < e.size })
}

func (k *knowledge) join(args []string) outcome {
	return k.pass(args, func(e *sealed) { e.torn = len(script.Bytes(args[1])) > 0 })
}

// widen hands an envelope on with another extra, under which no key opens its body.
func (k *knowledge) widen(args []string) outcome {
	return k.pass(args, func(e *sealed) {
		if len(script.Bytes(args[1])) > 0 {
			e.chain = none
		}
	})
}

func (k *knowledge) forge(args []string) outcome {
	return outcome{then: k.becomes(args[1], nil)}
}

// pass hands an envelope on to a side, as the network changes it. The envelope's number is the first word, the side the last one.
func (k *knowledge) pass(args []string, change func(e *sealed)) outcome {
	e, name := k.envelopes[script.Int(args[0])-1], args[len(args)-1]
	to := k.sides[name]
	if e == nil || to == nil {
		return outcome{then: k.becomes(name, nil)}
	}
	changed := *e
	change(&changed)
	if changed.torn {
		return outcome{must: answer{refused, number(api.PartEnvelope), whichever, number(0), number(0)}}
	}
	next, work, why := to.open(k.marks, changed)
	if why != api.OK {
		return outcome{must: tell(refused, partOf(why), int(why), work.Trials, work.Steps)}
	}
	return outcome{must: said(e.plain, work), then: k.becomes(name, next)}
}

// partOf is the part in which a session finds what is wrong.
func partOf(why api.Errno) int {
	switch why {
	case api.ErrHeader:
		return api.PartHeader
	case api.ErrBody:
		return api.PartBody
	}
	return api.PartRatchet
}

// said is the answer that tells a plain text.
func said(plain []byte, work api.Work) answer {
	c, err := content.Decode(plain)
	if err != nil {
		return append(tell(bytes, work.Trials, work.Steps), script.HexOf(plain))
	}
	line, _ := content.Print(c) // OK: whatever is decoded is a content
	return append(tell(heard, work.Trials, work.Steps), line)
}

func (k *knowledge) forget(args []string) outcome {
	s := k.sides[args[0]]
	if s == nil {
		return outcome{}
	}
	next, gone := s.forget(script.Int(args[1]))
	return outcome{must: tell("forgot", gone), then: k.becomes(args[0], next)}
}

func (k *knowledge) look(args []string) outcome {
	s := k.sides[args[0]]
	if s == nil {
		return outcome{}
	}
	return outcome{must: tell("look", s.send.n, s.prev, s.recv.n, len(s.spares), one(s.turn))}
}

func (k *knowledge) export(args []string) outcome {
	s := k.sides[args[0]]
	if s == nil {
		return outcome{}
	}
	return outcome{must: append(tell(export, s.size()), whichever)}
}

func (k *knowledge) save(args []string) outcome {
	s := k.sides[args[0]]
	return outcome{must: laid("saved", s), then: func() { k.kept[args[1]] = s }}
}

func (k *knowledge) load(args []string) outcome {
	s := k.kept[args[1]]
	return outcome{must: laid("loaded", s), then: k.becomes(args[0], s)}
}

func (k *knowledge) take(args []string) outcome {
	return outcome{then: k.becomes(args[0], nil)}
}

// laid is the answer that tells how many bytes a side has, laid down; none of an unknown one.
func laid(word string, s *side) answer {
	if s == nil {
		return nil
	}
	return tell(word, s.size())
}

// agrees tells whether the sum of a side's export is the one that was told of all sides alike; it is kept for the later ones.
func (k *knowledge) agrees(s *side, sum string) bool {
	if s == nil {
		return true
	}
	for _, x := range k.exports {
		if alike(x.side, s) {
			return x.sum == sum
		}
	}
	k.exports = append(k.exports, exported{s, sum})
	return true
}
