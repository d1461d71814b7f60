package envelope

import (
	"pawl/api"
	"pawl/schema"
)

// PackHeader makes a header's bytes; ParseHeader reads them. An error is an *api.Fault.
func PackHeader(h api.Header) []byte {
	b, _ := headerCodec().Encode(api.Value{Parts: []api.Value{ // nil: every header is within the schema's bounds
		{Data: h.Public[:]},
		{Num: uint64(h.Prev)},
		{Num: uint64(h.N)},
	}})
	return b
}

func ParseHeader(b []byte) (api.Header, error) {
	v, err := headerCodec().Decode(b)
	if err != nil {
		return api.Header{}, err
	}
	h := api.Header{Prev: uint32(v.Parts[1].Num), N: uint32(v.Parts[2].Num)}
	copy(h.Public[:], v.Parts[0].Data)
	return h, nil
}

// headerCodec makes the schema of headers ready.
func headerCodec() *schema.Codec {
	return compiled(
		sized(1, api.KeySize),
		api.Slot{No: 2, Kind: api.KFixed32, Most: api.MaxCount},
		api.Slot{No: 3, Kind: api.KFixed32, Most: api.MaxCount},
	)
}
