package ratchet

import (
	"pawl/api"
	"pawl/curve"
	"pawl/spare"
)

// Check tells whether there can be such a state.
func Check(s api.State) api.Errno {
	_, e := sideOf(s)
	return e
}

// sideOf is the side with a state, if there can be such a state.
func sideOf(s api.State) (side, api.Errno) {
	if e := checkConfig(s.Config); e != api.OK {
		return side{}, e
	}
	spares, e := spare.From(s.Config.Store, s.Spares)
	if e != api.OK || !peerCanBe(s) || !sendingCanBe(s) || !receivingCanBe(s) || !ownCanBe(s) {
		return side{}, api.ErrState
	}
	s.Spares = nil
	return side{s, *spares}, api.OK
}

func checkConfig(c api.Config) api.Errno {
	switch {
	case c.Version != 1 && c.Version != 2:
		return api.ErrVersion
	case c.Skip < 0 || c.Skip > api.MaxSkip, c.Store < 0 || c.Store > api.MaxStore:
		return api.ErrArg
	}
	return api.OK
}

// peerCanBe: nothing was sent to nor heard of somebody who is not known, and one who is known is answered, or will be.
func peerCanBe(s api.State) bool {
	if s.HasPeer {
		return s.Turn || s.HasSend
	}
	return s.Peer == api.Key{} && !s.Turn && !s.HasSend && !s.HasRecv
}

// ownCanBe: the own pair is one, and stands wherever a chain came of it.
func ownCanBe(s api.State) bool {
	if s.HasOwn {
		return s.Own.Private == curve.Clamp(s.Own.Private) && s.Own.Public == curve.Public(s.Own.Private)
	}
	return s.Own == api.Pair{} && !s.HasSend && !s.HasRecv
}

// sendingCanBe and receivingCanBe: nothing is told of a chain that is not there.
func sendingCanBe(s api.State) bool {
	return s.HasSend || s.Send == api.Key{} && s.SendHeader == api.Key{} && s.SendN == 0 && s.Prev == 0
}

func receivingCanBe(s api.State) bool {
	return s.HasRecv || s.Recv == api.Key{} && s.RecvHeader == api.Key{} && s.RecvN == 0
}
