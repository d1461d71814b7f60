package agree

import (
	"bytes"
	"slices"

	"pawl/api"
	"pawl/mac"
)

// secretsName keeps the secrets apart from all else that is made of keys.
const secretsName = "pawl agree"

// view is an agreement as one side sees it. Each side has pairs of its own and the other one's public keys alone: W is what it has of the one who writes first, A what it has of the one who answers. So both come to the same by the same rules, whichever half they hold.
type view[W, A any] struct {
	writer, fresh          W
	identity, signed, once A
	hasOnce                bool
	share                  func(W, A) (api.Key, api.Errno)
}

// meeting is a key of the one who writes first and one of the other's that are taken together.
type meeting[W, A any] struct {
	writer W
	other  A
}

// secrets are what the agreement gives; the two public keys are those that the sides have for good.
func (v view[W, A]) secrets(writer, identity api.Key) (api.Secrets, api.Errno) {
	keys, e := v.keys()
	if e != api.OK {
		return api.Secrets{}, e
	}
	s := secretsOf(keys)
	s.Extra = slices.Concat(writer[:], identity[:])
	return s, api.OK
}

// keys are what the two sides share, in the order in which the secrets are made of them.
func (v view[W, A]) keys() ([]api.Key, api.Errno) {
	var keys []api.Key
	for _, m := range v.meetings() {
		key, e := v.share(m.writer, m.other)
		if e != api.OK {
			return nil, e
		}
		keys = append(keys, key)
	}
	return keys, api.OK
}

func (v view[W, A]) meetings() []meeting[W, A] {
	all := []meeting[W, A]{
		{v.writer, v.signed},
		{v.fresh, v.identity},
		{v.fresh, v.signed},
	}
	if v.hasOnce {
		all = append(all, meeting[W, A]{v.fresh, v.once})
	}
	return all
}

// secretsOf makes the three secret keys of what is shared.
func secretsOf(keys []api.Key) api.Secrets {
	secret := bytes.Repeat([]byte{0xff}, api.KeySize)
	for _, key := range keys {
		secret = append(secret, key[:]...)
	}
	b, _ := mac.Derive(make([]byte, api.KeySize), secret, []byte(secretsName), 3*api.KeySize) // OK: far below the bound
	return api.Secrets{
		Shared:  api.Key(b[:api.KeySize]),
		HeaderA: api.Key(b[api.KeySize : 2*api.KeySize]),
		HeaderB: api.Key(b[2*api.KeySize:]),
	}
}
