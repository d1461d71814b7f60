package group

import (
	"errors"
	"slices"

	"pawl/api"
	"pawl/schema"
	"pawl/sign"
)

// The numbers of the fields of a card's bytes and of a message's: the first three are those of both. There is one for each slot, so that each field's value is the part of the number less one.
const (
	idNo = 1 + iota
	nameNo
	genNo
)

const (
	keyNo = genNo + 1 + iota
	cardCountNo
	publicNo
	cardSigNo
)

const (
	countNo = genNo + 1 + iota
	boxNo
	sigNo
)

// mostBox is how many bytes the greatest body and its tag have.
const mostBox = 1<<21 + api.TagSize

func cardSlots() []api.Slot {
	return append(senderSlots(), keySlot(keyNo), countSlot(cardCountNo), keySlot(publicNo), sigSlot(cardSigNo))
}

func messageSlots() []api.Slot {
	return append(senderSlots(), countSlot(countNo), bytesSlot(boxNo, api.TagSize, mostBox), sigSlot(sigNo))
}

func senderSlots() []api.Slot {
	return []api.Slot{keySlot(idNo), nameSlot(nameNo), countSlot(genNo)}
}

// sender is the parts that tell whose a card or a message is: one's own.
func (g *Group) sender() []api.Value {
	return []api.Value{keyValue(g.id), text(g.me), number(g.own.gen)}
}

// signed is the bytes of a message that ends with a signature, of its parts ahead of that.
func signed(mark string, slots []api.Slot, parts []api.Value, seed api.Key) []byte {
	sig, _ := sign.Sign(seed[:], toSign(mark, slots, parts)) // OK: it has a seed's length
	return encoded(slots, append(parts, api.Value{Data: sig[:]}))
}

// holds: the signature with which such a message ends is one of a public key.
func holds(mark string, slots []api.Slot, parts []api.Value, public api.Key) bool {
	last := len(parts) - 1
	return sign.Check(public, toSign(mark, slots, parts[:last]), api.Signature(parts[last].Data)) == api.OK
}

// toSign is what is signed of it: a mark, and the bytes of its parts ahead of the signature.
func toSign(mark string, slots []api.Slot, parts []api.Value) []byte {
	return slices.Concat([]byte(mark), encoded(slots[:len(parts)], parts))
}

// encoded is the bytes of parts of such slots; none, if they are out of the slots' bounds.
func encoded(slots []api.Slot, parts []api.Value) []byte {
	b, _ := codec(slots).Encode(api.Value{Parts: parts}) // an error comes with no bytes
	return b
}

// decoded is the parts whose bytes they are; or what layer 8 found in them, with the part in which that is told.
func decoded(slots []api.Slot, b []byte, part int) ([]api.Value, error) {
	v, err := codec(slots).Decode(b)
	var found *api.Fault
	if errors.As(err, &found) {
		return nil, wrong(part, found)
	}
	return v.Parts, nil
}

// codec makes a schema ready that can be.
func codec(slots []api.Slot) *schema.Codec {
	c, _ := schema.Compile(slots)
	return c
}

func keySlot(no int) api.Slot { return bytesSlot(no, api.KeySize, api.KeySize) }

func sigSlot(no int) api.Slot {
	return bytesSlot(no, uint64(len(api.Signature{})), uint64(len(api.Signature{})))
}

func bytesSlot(no int, least, most uint64) api.Slot {
	return api.Slot{No: no, Kind: api.KBytes, Least: least, Most: most}
}

func nameSlot(no int) api.Slot {
	return api.Slot{No: no, Kind: api.KText, Least: 1, Most: api.MaxName}
}

func countSlot(no int) api.Slot {
	return api.Slot{No: no, Kind: api.KFixed32, Most: api.MaxCount}
}

func keyValue(k api.Key) api.Value { return api.Value{Data: k[:]} }

func text(s string) api.Value { return api.Value{Data: []byte(s)} }

func number(n uint32) api.Value { return api.Value{Num: uint64(n)} }

func keyIn(v api.Value) api.Key { return api.Key(v.Data) }

func textIn(v api.Value) string { return string(v.Data) }

func countIn(v api.Value) uint32 { return uint32(v.Num) }
