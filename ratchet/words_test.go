package ratchet_test

import (
	"crypto/aes"
	"crypto/cipher"
	"crypto/ecdh"
	"crypto/hkdf"
	"crypto/hmac"
	"crypto/sha256"
	"encoding/binary"
	"slices"

	"pawl/api"
)

// What the chapter says, and what it takes from those below it, done as it is said, on a plain state, by Go's own library and by nothing of the program.

const (
	mostExtra = 65536
	mostBox   = 2097216
	mostSkip  = 1000
	mostStore = 2000
	mostCount = 4294967295
)

// fine are the bytes that a call of Go's own library gives, which refuses none of what it is handed here.
func fine(b []byte, err error) []byte {
	if err != nil {
		panic(err)
	}
	return b
}

// Layer 2.

func clampByWords(k api.Key) api.Key {
	k[0] &= 248
	k[31] = k[31]&127 | 64
	return k
}

func privateByWords(k api.Key) *ecdh.PrivateKey {
	p, err := ecdh.X25519().NewPrivateKey(k[:])
	if err != nil {
		panic(err)
	}
	return p
}

func publicByWords(k api.Key) api.Key { return api.Key(privateByWords(k).PublicKey().Bytes()) }

func pairByWords(seed api.Key) api.Pair {
	return api.Pair{Private: clampByWords(seed), Public: publicByWords(seed)}
}

// sharedByWords is what two keys share; false, if it is weak, which is the one thing that the library refuses.
func sharedByWords(k, u api.Key) (api.Key, bool) {
	p, err := ecdh.X25519().NewPublicKey(u[:])
	if err != nil {
		panic(err)
	}
	b, err := privateByWords(k).ECDH(p)
	if err != nil {
		return api.Key{}, false
	}
	return api.Key(b), true
}

// Layers 4, 5 and 6.

func hmacByWords(key api.Key, b ...byte) []byte {
	h := hmac.New(sha256.New, key[:])
	h.Write(b)
	return h.Sum(nil)
}

// tagByWords is the tag key's sum; turnByWords the stream's work.
func tagByWords(key api.Key, nonce api.Nonce, extra, text []byte) []byte {
	keys := fine(hkdf.Expand(sha256.New, key[:], "pawl seal", 64))
	under := binary.LittleEndian.AppendUint64(nil, uint64(len(extra)))
	return hmacByWords(api.Key(keys[32:]), slices.Concat(under, extra, nonce[:], text)...)[:16]
}

func turnByWords(key api.Key, nonce api.Nonce, b []byte) []byte {
	keys := fine(hkdf.Expand(sha256.New, key[:], "pawl seal", 64))
	c, err := aes.NewCipher(keys[:32])
	if err != nil {
		panic(err)
	}
	out := make([]byte, len(b))
	cipher.NewCTR(c, nonce[:]).XORKeyStream(out, b)
	return out
}

func boxByWords(key api.Key, nonce api.Nonce, extra, plain []byte) []byte {
	text := turnByWords(key, nonce, plain)
	return append(text, tagByWords(key, nonce, extra, text)...)
}

func unboxByWords(key api.Key, nonce api.Nonce, extra, box []byte) ([]byte, bool) {
	text, tag := box[:len(box)-16], box[len(box)-16:]
	if string(tag) != string(tagByWords(key, nonce, extra, text)) {
		return nil, false
	}
	return turnByWords(key, nonce, text), true
}

// Layer 10.

func headerByWords(h api.Header) []byte {
	b := append([]byte{0x0a, 0x20}, h.Public[:]...)
	b = binary.LittleEndian.AppendUint32(append(b, 0x15), h.Prev)
	return binary.LittleEndian.AppendUint32(append(b, 0x1d), h.N)
}

func unheaderByWords(b []byte) (api.Header, bool) {
	h := api.Header{Public: api.Key(b[2:34]), Prev: binary.LittleEndian.Uint32(b[35:39]), N: binary.LittleEndian.Uint32(b[40:44])}
	return h, string(headerByWords(h)) == string(b)
}

// Layer 11.

func stepByWords(key api.Key) (next, message api.Key) {
	return api.Key(hmacByWords(key, 2)), api.Key(hmacByWords(key, 1))
}

func rootByWords(root, secret api.Key) (next, chain, header api.Key) {
	b := fine(hkdf.Key(sha256.New, secret[:], root[:], "pawl root", 96))
	return api.Key(b[:32]), api.Key(b[32:64]), api.Key(b[64:])
}

func messageByWords(key api.Key) (body api.Key, nonce api.Nonce) {
	b := fine(hkdf.Expand(sha256.New, key[:], "pawl message", 48))
	return api.Key(b[:32]), api.Nonce(b[32:])
}

// Layer 12.

func meet(a, b api.Spare) bool { return a.Header == b.Header && a.N == b.N }

func putByWords(spares, l []api.Spare, most int) ([]api.Spare, api.Errno) {
	all := slices.Concat(spares, l)
	for i, a := range all {
		for _, b := range all[:i] {
			if meet(a, b) {
				return nil, api.ErrTwice
			}
		}
	}
	if len(all) > most {
		return nil, api.ErrStore
	}
	return all, api.OK
}

// Layer 13.

// checkByWords is 13.1's conditions, one by one.
func checkByWords(s api.State) api.Errno {
	c := s.Config
	if c.Version != 1 && c.Version != 2 {
		return api.ErrVersion
	}
	if c.Skip < 0 || c.Skip > mostSkip || c.Store < 0 || c.Store > mostStore {
		return api.ErrArg
	}
	none := api.Key{}
	_, put := putByWords(nil, s.Spares, c.Store)
	for _, can := range []bool{
		s.HasOwn || s.Own.Private == none,
		s.HasOwn || s.Own.Public == none,
		!s.HasOwn || s.Own.Private == clampByWords(s.Own.Private),
		!s.HasOwn || s.Own.Public == publicByWords(s.Own.Private),
		s.HasPeer || s.Peer == none,
		s.HasPeer || !s.Turn,
		s.HasPeer || !s.HasSend,
		s.HasPeer || !s.HasRecv,
		!s.HasPeer || s.Turn || s.HasSend,
		s.HasOwn || !s.HasSend,
		s.HasOwn || !s.HasRecv,
		s.HasSend || s.Send == none,
		s.HasSend || s.SendHeader == none,
		s.HasSend || s.SendN == 0,
		s.HasSend || s.Prev == 0,
		s.HasRecv || s.Recv == none,
		s.HasRecv || s.RecvHeader == none,
		s.HasRecv || s.RecvN == 0,
		put == api.OK,
	} {
		if !can {
			return api.ErrState
		}
	}
	return api.OK
}

// sideByWords is a side: its state.
type sideByWords struct{ s api.State }

// copied is a state with a list of its own.
func copied(s api.State) api.State {
	s.Spares = slices.Clone(s.Spares)
	return s
}

func (w *sideByWords) seal(body, extra, seed []byte) (api.Envelope, api.Errno) {
	s := copied(w.s)
	if len(extra) > mostExtra || len(body) > mostBox {
		return api.Envelope{}, api.ErrLong
	}
	if !s.Turn && !s.HasSend {
		return api.Envelope{}, api.ErrSilent
	}
	if s.Turn {
		if len(seed) != 32 {
			return api.Envelope{}, api.ErrSize
		}
		own := pairByWords(api.Key(seed))
		secret, strong := sharedByWords(own.Private, s.Peer)
		if !strong {
			return api.Envelope{}, api.ErrWeak
		}
		s.Own, s.HasOwn = own, true
		s.Prev = s.SendN
		s.SendHeader = s.NextSend
		s.Root, s.Send, s.NextSend = rootByWords(s.Root, secret)
		s.SendN = 0
		s.HasSend = true
		s.Turn = false
	} else if s.SendN == mostCount {
		return api.Envelope{}, api.ErrExhausted
	}
	next, k := stepByWords(s.Send)
	n := s.SendN
	s.Send, s.SendN = next, n+1
	w.s = s
	l := letter{version: s.Config.Version, under: s.SendHeader, header: api.Header{Public: s.Own.Public, Prev: s.Prev, N: n}, message: k}
	return l.envelope(body, extra), api.OK
}

// letter is what an envelope is made with, by whoever has all keys.
type letter struct {
	version int
	under   api.Key
	header  api.Header
	message api.Key
}

func (l letter) envelope(body, extra []byte) api.Envelope {
	_, nonce := messageByWords(l.message)
	return l.envelopeOf(nonce, headerByWords(l.header), body, extra)
}

// envelopeOf is one of a nonce and of a header's bytes that need not be those of the letter.
func (l letter) envelopeOf(nonce api.Nonce, head, body, extra []byte) api.Envelope {
	key, bodyNonce := messageByWords(l.message)
	v := []byte{byte(l.version)}
	e := api.Envelope{Version: l.version, Nonce: nonce}
	e.Header = boxByWords(l.under, nonce, v, head)
	e.Body = boxByWords(key, bodyNonce, slices.Concat(v, nonce[:], e.Header, extra), body)
	return e
}

// candidatesByWords are the header keys that are tried.
func candidatesByWords(s api.State) []api.Key {
	var all, once []api.Key
	for _, x := range s.Spares {
		all = append(all, x.Header)
	}
	if s.HasRecv {
		all = append(all, s.RecvHeader)
	}
	for _, k := range append(all, s.NextRecv) {
		if !slices.Contains(once, k) {
			once = append(once, k)
		}
	}
	return once
}

// The ways that a header can go.
const (
	bySpare = iota
	byChain
	byTurn
	byNone
)

func wayByWords(s api.State, h api.Key, n uint32) int {
	switch {
	case slices.ContainsFunc(s.Spares, func(x api.Spare) bool { return x.Header == h && x.N == n }):
		return bySpare
	case s.HasRecv && h == s.RecvHeader:
		return byChain
	case h == s.NextRecv:
		return byTurn
	}
	return byNone
}

// alongByWords goes along a chain from one number up to another: where it then stands, and the spares of what lies between.
func alongByWords(key, header api.Key, from, to uint64) (api.Key, []api.Spare) {
	var l []api.Spare
	for n := from; n < to; n++ {
		next, message := stepByWords(key)
		l = append(l, api.Spare{Header: header, N: uint32(n), Message: message})
		key = next
	}
	return key, l
}

// unsealByWords is what step 2 of opening comes to: the header key, what the header says, how many were tried.
func unsealByWords(s api.State, e api.Envelope) (api.Key, api.Header, int, api.Errno) {
	all := candidatesByWords(s)
	for i, k := range all {
		b, opens := unboxByWords(k, e.Nonce, []byte{byte(s.Config.Version)}, e.Header)
		if !opens {
			continue
		}
		head, is := unheaderByWords(b)
		if !is {
			return k, head, i + 1, api.ErrHeader
		}
		return k, head, i + 1, api.OK
	}
	return api.Key{}, api.Header{}, len(all), api.ErrHeader
}

// readByWords is what the steps 3 to 6 come to: the message's key, the steps of chains, the state that follows.
func readByWords(s api.State, h api.Key, head api.Header) (k api.Key, steps int, next api.State, why api.Errno) {
	next = copied(s)
	n, at, skip := uint64(head.N), uint64(s.RecvN), uint64(s.Config.Skip)
	switch wayByWords(s, h, head.N) {
	case bySpare:
		i := slices.IndexFunc(s.Spares, func(x api.Spare) bool { return x.Header == h && x.N == head.N })
		next.Spares = slices.Delete(next.Spares, i, i+1)
		return s.Spares[i].Message, 0, next, api.OK
	case byChain:
		switch {
		case n < at:
			return k, 0, s, api.ErrOld
		case n == mostCount:
			return k, 0, s, api.ErrExhausted
		case n-at > skip:
			return k, 0, s, api.ErrSkip
		}
		key, skipped := alongByWords(s.Recv, h, at, n)
		if next.Spares, why = putByWords(s.Spares, skipped, s.Config.Store); why != api.OK {
			return k, 0, s, why
		}
		next.Recv, k = stepByWords(key)
		next.RecvN = head.N + 1
		return k, int(n-at) + 1, next, api.OK
	case byTurn:
		return turnOfByWords(s, h, head)
	}
	return k, 0, s, api.ErrOld
}

func turnOfByWords(s api.State, h api.Key, head api.Header) (k api.Key, steps int, next api.State, why api.Errno) {
	next = copied(s)
	if !s.HasOwn {
		return k, 0, s, api.ErrState
	}
	m := int64(0)
	if s.HasRecv {
		m = max(0, int64(head.Prev)-int64(s.RecvN))
	}
	if m > int64(s.Config.Skip) || int64(head.N) > int64(s.Config.Skip) {
		return k, 0, s, api.ErrSkip
	}
	secret, strong := sharedByWords(s.Own.Private, head.Public)
	root, key, header := rootByWords(s.Root, secret)
	_, last := alongByWords(s.Recv, s.RecvHeader, uint64(s.RecvN), uint64(s.RecvN)+uint64(m))
	key, first := alongByWords(key, h, 0, uint64(head.N))
	if next.Spares, why = putByWords(s.Spares, append(last, first...), s.Config.Store); why != api.OK {
		return k, 0, s, why
	}
	if !strong {
		return k, 0, s, api.ErrWeak
	}
	next.Peer, next.HasPeer = head.Public, true
	next.Root, next.RecvHeader, next.NextRecv = root, h, header
	next.Recv, k = stepByWords(key)
	next.RecvN, next.HasRecv, next.Turn = head.N+1, true, true
	return k, int(m) + int(head.N) + 1, next, api.OK
}

func (w *sideByWords) open(e api.Envelope, extra []byte) ([]byte, api.Work, api.Errno) {
	s := w.s
	switch {
	case len(extra) > mostExtra || len(e.Body) > mostBox+16:
		return nil, api.Work{}, api.ErrLong
	case e.Version != s.Config.Version:
		return nil, api.Work{}, api.ErrVersion
	case len(e.Header) != 60 || len(e.Body) < 16:
		return nil, api.Work{}, api.ErrParts
	}
	h, head, trials, why := unsealByWords(s, e)
	if why != api.OK {
		return nil, api.Work{Trials: trials}, why
	}
	k, steps, next, why := readByWords(s, h, head)
	if why != api.OK {
		return nil, api.Work{Trials: trials}, why
	}
	key, nonce := messageByWords(k)
	body, opens := unboxByWords(key, nonce, slices.Concat([]byte{byte(e.Version)}, e.Nonce[:], e.Header, extra), e.Body)
	if !opens {
		return nil, api.Work{Trials: trials, Steps: steps}, api.ErrBody
	}
	w.s = next
	return body, api.Work{Trials: trials, Steps: steps}, api.OK
}

func (w *sideByWords) forget(n int) int {
	if n < 1 {
		return 0
	}
	n = min(n, len(w.s.Spares))
	w.s.Spares = slices.Clone(w.s.Spares[n:])
	return n
}
