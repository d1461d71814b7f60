package lab

import (
	"pawl/agree"
	"pawl/api"
	"pawl/curve"
	"pawl/hash"
	"pawl/script"
	"pawl/session"
)

// safetyRounds is of how many rounds the number is that a beginning tells.
const safetyRounds = 8

// begin has the two agree. Nothing of that can be refused: the script's words keep the config's bounds, and pairs of seeds always share a secret.
func (b *bench) begin(args []string) string {
	c := api.Config{Version: script.Int(args[0]), Skip: script.Int(args[1]), Store: script.Int(args[2])}
	of := func(what string) string { return args[3] + "/" + what }
	hasOnce := args[4] == withOnce
	own, fresh := pairOf(of(alice)), pairOf(of("fresh"))
	identity, signed, once := pairOf(of(bob)), pairOf(of("signed")), pairOf(of("once"))

	bundle, _ := agree.Parse(agree.Pack(agree.Offer(identity, signed, once, hasOnce)))
	hers, _ := agree.Start(own, fresh, bundle)
	his, _ := agree.Answer(identity, signed, once, hasOnce, own.Public, fresh.Public)
	signedSeed := seedOf(of("signed"))
	b.sides[alice], _ = session.Alice(hers.Shared[:], hers.HeaderA[:], hers.HeaderB[:], bundle.Signed[:], c)
	b.sides[bob], _ = session.Bob(his.Shared[:], his.HeaderA[:], his.HeaderB[:], signedSeed[:], c)
	b.extra = hers.Extra

	number, _ := agree.Safety(own.Public, identity.Public, safetyRounds)
	return "begun " + number
}

// seedOf is the seed that a word gives, pairOf the pair of that.
func seedOf(word string) api.Key { return hash.Sum([]byte(word)) }

func pairOf(word string) api.Pair {
	seed := seedOf(word)
	pair, _ := curve.Pair(seed[:]) // OK: it has a seed's length
	return pair
}
