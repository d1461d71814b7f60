package agree

import (
	"pawl/api"
	"pawl/schema"
)

// The numbers of a bundle's fields.
const (
	identityNo = 1 + iota
	signedNo
	hasOnceNo
	onceNo
)

// onceAt is the place where the field of the key for once begins in a bundle's bytes. It is always the same: ahead of it stand two keys with two more bytes each, and the flag in two bytes.
const onceAt = 2*(2+api.KeySize) + 2

// Offer is the bundle of somebody's public keys.
func Offer(identity, signed, once api.Pair, hasOnce bool) api.Bundle {
	b := api.Bundle{Identity: identity.Public, Signed: signed.Public, HasOnce: hasOnce}
	if hasOnce {
		b.Once = once.Public
	}
	return b
}

// canBe tells whether there can be such a bundle: a key for once that is not offered must not be told.
func canBe(b api.Bundle) bool { return b.HasOnce || b.Once == api.Key{} }

// Pack makes a bundle's bytes; Parse reads them. An error is an *api.Fault.
func Pack(b api.Bundle) []byte {
	var flag uint64
	var once api.Key
	if b.HasOnce {
		flag, once = 1, b.Once
	}
	out, _ := codec().Encode(api.Value{Parts: []api.Value{ // nil: every bundle is within the schema's bounds
		{Data: b.Identity[:]},
		{Data: b.Signed[:]},
		{Num: flag},
		{Data: once[:]},
	}})
	return out
}

func Parse(b []byte) (api.Bundle, error) {
	v, err := codec().Decode(b)
	if err != nil {
		return api.Bundle{}, err
	}
	out := api.Bundle{
		Identity: api.Key(v.Parts[0].Data),
		Signed:   api.Key(v.Parts[1].Data),
		HasOnce:  v.Parts[2].Num == 1,
		Once:     api.Key(v.Parts[3].Data),
	}
	if !canBe(out) {
		return api.Bundle{}, &api.Fault{At: onceAt, Why: api.ErrBundle}
	}
	return out, nil
}

// codec makes the schema of bundles ready.
func codec() *schema.Codec {
	c, _ := schema.Compile([]api.Slot{ // OK: it can be
		keySlot(identityNo),
		keySlot(signedNo),
		{No: hasOnceNo, Kind: api.KFlag},
		keySlot(onceNo),
	})
	return c
}

func keySlot(no int) api.Slot {
	return api.Slot{No: no, Kind: api.KBytes, Least: api.KeySize, Most: api.KeySize}
}
