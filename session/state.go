package session

import (
	"pawl/api"
	"pawl/ratchet"
	"pawl/schema"
)

// The numbers of the fields of a state's bytes. There is one for each slot, so that each field's value is the part of the number less one.
const (
	versionNo = 1 + iota
	skipNo
	storeNo
	rootNo
	ownNo
	peerNo
	turnNo
	sendNo
	nextSendNo
	prevNo
	recvNo
	nextRecvNo
	sparesNo
)

// Encode makes a state's bytes; Decode reads them. An error is an *api.Wrap.
func Encode(s api.State) ([]byte, error) {
	if why := ratchet.Check(s); why != api.OK {
		return nil, wrong(api.PartState, why)
	}
	b, _ := codec().Encode(valueOf(s)) // nil: a state that can be is within the schema's bounds
	return b, nil
}

func Decode(b []byte) (api.State, error) {
	side, err := read(b)
	if err != nil {
		return api.State{}, err
	}
	return side.State(), nil
}

// read is the side with the state whose bytes b are.
func read(b []byte) (*ratchet.Ratchet, error) {
	v, err := codec().Decode(b)
	if err != nil {
		return nil, wrong(api.PartState, err)
	}
	side, why := ratchet.From(stateOf(v))
	if why != api.OK {
		return nil, wrong(api.PartState, api.ErrExport)
	}
	return side, nil
}

// codec makes the schema of states ready. What may be missing is a list of at most one.
func codec() *schema.Codec {
	c, _ := schema.Compile([]api.Slot{ // OK: it can be
		{No: versionNo, Kind: api.KNum, Least: 1, Most: 2},
		{No: skipNo, Kind: api.KNum, Most: api.MaxSkip},
		{No: storeNo, Kind: api.KNum, Most: api.MaxStore},
		keySlot(rootNo),
		listSlot(ownNo, 1, keySlot(1), keySlot(2)),
		listSlot(peerNo, 1, keySlot(1)),
		{No: turnNo, Kind: api.KFlag},
		listSlot(sendNo, 1, keySlot(1), keySlot(2), countSlot(3)),
		keySlot(nextSendNo),
		countSlot(prevNo),
		listSlot(recvNo, 1, keySlot(1), keySlot(2), countSlot(3)),
		keySlot(nextRecvNo),
		listSlot(sparesNo, api.MaxStore, keySlot(1), countSlot(2), keySlot(3)),
	})
	return c
}

func keySlot(no int) api.Slot {
	return api.Slot{No: no, Kind: api.KBytes, Least: api.KeySize, Most: api.KeySize}
}

func countSlot(no int) api.Slot {
	return api.Slot{No: no, Kind: api.KFixed32, Most: api.MaxCount}
}

func listSlot(no int, most uint64, sub ...api.Slot) api.Slot {
	return api.Slot{No: no, Kind: api.KList, Most: most, Sub: sub}
}

// valueOf is a state as a message of its schema; stateOf reads one.
func valueOf(s api.State) api.Value {
	return message(
		number(uint64(s.Config.Version)),
		number(uint64(s.Config.Skip)),
		number(uint64(s.Config.Store)),
		keyValue(s.Root),
		perhaps(s.HasOwn, keyValue(s.Own.Private), keyValue(s.Own.Public)),
		perhaps(s.HasPeer, keyValue(s.Peer)),
		flag(s.Turn),
		perhaps(s.HasSend, keyValue(s.Send), keyValue(s.SendHeader), number(uint64(s.SendN))),
		keyValue(s.NextSend),
		number(uint64(s.Prev)),
		perhaps(s.HasRecv, keyValue(s.Recv), keyValue(s.RecvHeader), number(uint64(s.RecvN))),
		keyValue(s.NextRecv),
		sparesValue(s.Spares),
	)
}

func stateOf(v api.Value) api.State {
	part := func(no int) api.Value { return v.Parts[no-1] }
	s := api.State{
		Config:   api.Config{Version: int(part(versionNo).Num), Skip: int(part(skipNo).Num), Store: int(part(storeNo).Num)},
		Root:     keyIn(part(rootNo)),
		Turn:     part(turnNo).Num == 1,
		NextSend: keyIn(part(nextSendNo)),
		Prev:     uint32(part(prevNo).Num),
		NextRecv: keyIn(part(nextRecvNo)),
		Spares:   sparesIn(part(sparesNo)),
	}
	var l []api.Value
	if l, s.HasOwn = only(part(ownNo)); s.HasOwn {
		s.Own = api.Pair{Private: keyIn(l[0]), Public: keyIn(l[1])}
	}
	if l, s.HasPeer = only(part(peerNo)); s.HasPeer {
		s.Peer = keyIn(l[0])
	}
	if l, s.HasSend = only(part(sendNo)); s.HasSend {
		s.Send, s.SendHeader, s.SendN = keyIn(l[0]), keyIn(l[1]), uint32(l[2].Num)
	}
	if l, s.HasRecv = only(part(recvNo)); s.HasRecv {
		s.Recv, s.RecvHeader, s.RecvN = keyIn(l[0]), keyIn(l[1]), uint32(l[2].Num)
	}
	return s
}

func message(parts ...api.Value) api.Value { return api.Value{Parts: parts} }

func number(n uint64) api.Value { return api.Value{Num: n} }

func flag(is bool) api.Value {
	if is {
		return number(1)
	}
	return number(0)
}

func keyValue(k api.Key) api.Value { return api.Value{Data: k[:]} }

func keyIn(v api.Value) api.Key { return api.Key(v.Data) }

// perhaps is a list of one message, if there is one, else of none; only is that message's parts, and whether there is one.
func perhaps(is bool, parts ...api.Value) api.Value {
	if !is {
		return api.Value{}
	}
	return message(message(parts...))
}

func only(list api.Value) ([]api.Value, bool) {
	if len(list.Parts) == 0 {
		return nil, false
	}
	return list.Parts[0].Parts, true
}

func sparesValue(l []api.Spare) api.Value {
	var items []api.Value
	for _, one := range l {
		items = append(items, message(keyValue(one.Header), number(uint64(one.N)), keyValue(one.Message)))
	}
	return message(items...)
}

func sparesIn(list api.Value) []api.Spare {
	var l []api.Spare
	for _, item := range list.Parts {
		l = append(l, api.Spare{Header: keyIn(item.Parts[0]), N: uint32(item.Parts[1].Num), Message: keyIn(item.Parts[2])})
	}
	return l
}
