package lab

import (
	"errors"
	"slices"
	"strconv"

	"pawl/api"
	"pawl/content"
	"pawl/hash"
	"pawl/hex"
	"pawl/script"
	"pawl/session"
)

// missing is told where there is no envelope of that number, or nothing is kept under that name.
const missing = "missing"

// bench is where a script is played: the two, each under their name, the extra that they agreed on, the envelopes that were sent (number 1 first), and the exports that are kept, each under its name.
type bench struct {
	sides     map[string]*session.Session
	extra     []byte
	envelopes [][]byte
	kept      map[string][]byte
}

func newBench() *bench {
	return &bench{sides: map[string]*session.Session{}, kept: map[string][]byte{}}
}

func (b *bench) send(args []string) string {
	c, _, _ := content.Parse(args[2]) // OK: it was parsed with the script
	plain, _ := content.Encode(c)     // nil: whatever is parsed is a content
	return b.post(args[0], args[1], plain)
}

func (b *bench) bytes(args []string) string {
	return b.post(args[0], args[1], script.Bytes(args[2]))
}

// post has a side send a plain text.
func (b *bench) post(side, word string, plain []byte) string {
	seed := seedOf(word)
	e, err := b.sides[side].Send(plain, b.extra, seed[:])
	if err != nil {
		return refused(err)
	}
	b.envelopes = append(b.envelopes, e)
	return tell("sent", len(b.envelopes), len(e))
}

func (b *bench) give(args []string) string {
	return b.pass(args, func(*parcel) {})
}

func (b *bench) turn(args []string) string {
	return b.pass(args, func(p *parcel) { p.bytes = turned(p.bytes, script.Int(args[1])) })
}

func (b *bench) cut(args []string) string {
	return b.pass(args, func(p *parcel) { p.bytes = p.bytes[:min(script.Int(args[1]), len(p.bytes))] })
}

func (b *bench) join(args []string) string {
	return b.pass(args, func(p *parcel) { p.bytes = slices.Concat(p.bytes, script.Bytes(args[1])) })
}

func (b *bench) widen(args []string) string {
	return b.pass(args, func(p *parcel) { p.extra = slices.Concat(p.extra, script.Bytes(args[1])) })
}

func (b *bench) forge(args []string) string {
	return b.hand(args[1], parcel{script.Bytes(args[0]), b.extra})
}

// parcel is what a side is handed: bytes that may be an envelope's, and the extra with which it opens them.
type parcel struct{ bytes, extra []byte }

// pass hands an envelope on to a side, as the network changes it. The envelope's number is the first word, the side the last one.
func (b *bench) pass(args []string, change func(p *parcel)) string {
	k := script.Int(args[0])
	if k < 1 || k > len(b.envelopes) {
		return missing
	}
	p := parcel{b.envelopes[k-1], b.extra}
	change(&p)
	return b.hand(args[len(args)-1], p)
}

// hand has a side receive something, and tells what it heard.
func (b *bench) hand(side string, p parcel) string {
	heard, err := b.sides[side].Receive(p.bytes, p.extra)
	if err != nil {
		return refused(err, heard.Work.Trials, heard.Work.Steps)
	}
	c, err := content.Decode(heard.Plain)
	if err != nil {
		return tell("bytes", heard.Work.Trials, heard.Work.Steps) + " " + script.HexOf(heard.Plain)
	}
	line, _ := content.Print(c) // OK: whatever is decoded is a content
	return tell("heard", heard.Work.Trials, heard.Work.Steps) + " " + line
}

func (b *bench) forget(args []string) string {
	return tell("forgot", b.sides[args[0]].Forget(script.Int(args[1])))
}

func (b *bench) export(args []string) string {
	all := b.sides[args[0]].Export()
	sum := hash.Sum(all)
	return tell("export", len(all)) + " " + hex.Text(sum[:])
}

func (b *bench) save(args []string) string {
	all := b.sides[args[0]].Export()
	b.kept[args[1]] = all
	return tell("saved", len(all))
}

func (b *bench) load(args []string) string {
	all, there := b.kept[args[1]]
	if !there {
		return missing
	}
	return b.goOn(args[0], all)
}

func (b *bench) take(args []string) string {
	return b.goOn(args[0], script.Bytes(args[1]))
}

// goOn puts the session of a state's bytes in the place of a side.
func (b *bench) goOn(side string, all []byte) string {
	s, err := session.Import(all)
	if err != nil {
		return refused(err)
	}
	b.sides[side] = s
	return tell("loaded", len(all))
}

func (b *bench) look(args []string) string {
	s := b.sides[args[0]].State()
	turn := 0
	if s.Turn {
		turn = 1
	}
	return tell("look", int(s.SendN), int(s.Prev), int(s.RecvN), len(s.Spares), turn)
}

// turned is a list with one bit turned: of all its bits, counted from the first byte's lowest on, the one that is left over by their number.
func turned(list []byte, bit int) []byte {
	out := slices.Clone(list)
	bit %= 8 * len(out)
	out[bit/8] ^= 1 << (bit % 8)
	return out
}

// tell is a word and numbers, as a line of the trace has them.
func tell(word string, numbers ...int) string {
	for _, n := range numbers {
		word += " " + strconv.Itoa(n)
	}
	return word
}

// refused tells an error of a session's, its part and its number; and behind them the work, where there was some to do.
func refused(err error, work ...int) string {
	var part *api.Wrap
	var why api.Errno
	errors.As(err, &part)
	errors.As(err, &why)
	return tell(tell("refused", part.Part, int(why)), work...)
}
