package chain

import (
	"pawl/api"
	"pawl/mac"
)

// What a key is turned into is kept apart by what is hashed with it: of a chain's key one byte, of a root and a message's key a name.
const (
	messageMark = 1
	nextMark    = 2
	rootName    = "pawl root"
	messageName = "pawl message"
)

// Step is the chain's next key and the message's.
func Step(key api.Key) (next, message api.Key) {
	return mac.Sum(key[:], []byte{nextMark}), mac.Sum(key[:], []byte{messageMark})
}

// Root is the next root, a new chain's key, the header key behind it.
func Root(root, secret api.Key) (next, chain, header api.Key) {
	b, _ := mac.Derive(root[:], secret[:], []byte(rootName), 3*api.KeySize)
	return api.Key(b[:api.KeySize]), api.Key(b[api.KeySize : 2*api.KeySize]), api.Key(b[2*api.KeySize:])
}

// Message is what a message's key is for: the key and the nonce under which it is sealed.
func Message(key api.Key) (body api.Key, nonce api.Nonce) {
	b, _ := mac.Expand(key, []byte(messageName), api.KeySize+api.NonceSize)
	return api.Key(b[:api.KeySize]), api.Nonce(b[api.KeySize:])
}
