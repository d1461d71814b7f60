package prekeys

import (
	"math"

	"pawl/api"
	"pawl/schema"
)

// The numbers of the fields of a listing's bytes.
const (
	nameNo = 1 + iota
	deviceNo
	identityNo
	signedNo
	numberNo
	goneNo
	sigNo
)

// mostName is how many bytes can stand as the name of a listing: far more than a name has, since what is no name has bytes too.
const mostName = 4096

// Text is what is signed of a listing, behind the bytes "pawl listing"; Pack its bytes, signature and all; Parse reads them. An error is an *api.Fault.
func Text(l api.Listing) []byte {
	return encoded(textSlots(), textParts(l))
}

func Pack(l api.Listing) []byte {
	return encoded(packSlots(), append(textParts(l), api.Value{Data: l.Sig[:]}))
}

func Parse(b []byte) (api.Listing, error) {
	v, err := codec(packSlots()).Decode(b)
	if err != nil {
		return api.Listing{}, err
	}
	return api.Listing{
		Name:     string(v.Parts[0].Data),
		Device:   int(v.Parts[1].Num),
		Identity: api.Key(v.Parts[2].Data),
		Signed:   api.Key(v.Parts[3].Data),
		Number:   uint32(v.Parts[4].Num),
		Gone:     v.Parts[5].Num == 1,
		Sig:      api.Signature(v.Parts[6].Data),
	}, nil
}

// textParts are the values of a listing's fields but the signature.
func textParts(l api.Listing) []api.Value {
	var gone uint64
	if l.Gone {
		gone = 1
	}
	return []api.Value{
		{Data: []byte(l.Name)},
		{Num: uint64(l.Device)},
		{Data: l.Identity[:]},
		{Data: l.Signed[:]},
		{Num: uint64(l.Number)},
		{Num: gone},
	}
}

// textSlots is the schema of what is signed, packSlots that of all.
func textSlots() []api.Slot {
	return []api.Slot{
		{No: nameNo, Kind: api.KBytes, Most: mostName},
		{No: deviceNo, Kind: api.KFixed64, Most: math.MaxUint64},
		bytesSlot(identityNo, api.KeySize),
		bytesSlot(signedNo, api.KeySize),
		{No: numberNo, Kind: api.KFixed32, Most: math.MaxUint32},
		{No: goneNo, Kind: api.KFlag},
	}
}

func packSlots() []api.Slot {
	return append(textSlots(), bytesSlot(sigNo, uint64(len(api.Signature{}))))
}

// bytesSlot is one of just n bytes.
func bytesSlot(no int, n uint64) api.Slot {
	return api.Slot{No: no, Kind: api.KBytes, Least: n, Most: n}
}

// encoded is the bytes of such parts; none, if the name is too long for them.
func encoded(slots []api.Slot, parts []api.Value) []byte {
	b, _ := codec(slots).Encode(api.Value{Parts: parts}) // an error comes with no bytes
	return b
}

// codec makes a schema ready that can be.
func codec(slots []api.Slot) *schema.Codec {
	c, _ := schema.Compile(slots)
	return c
}
