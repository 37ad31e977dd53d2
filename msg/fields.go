package msg

import "isthmus/api"

// fields are some of a message's fields, a bit each.
type fields uint16

// The fields stand in the order in which every type that has them writes them.
const (
	theFrom fields = 1 << iota
	theTo
	theIndex
	thePeer
	theCounter
	theBase
	theVersion
	theTx
	theEnd
	theCode
	theText
	theData
	theSig
)

// shapeOf is the name of the type t, and which fields it has; nothing, if there is no such type.
func shapeOf(t uint8) (string, fields) {
	switch t {
	case api.MsgRegister:
		return "register", theFrom | theTo | theText
	case api.MsgRegistered:
		return "registered", theFrom | theVersion | theEnd
	case api.MsgPoll:
		return "poll", theFrom | theVersion
	case api.MsgFull:
		return "full", theVersion | theData | theSig
	case api.MsgDelta:
		return "delta", theBase | theVersion | theData | theSig
	case api.MsgRefused:
		return "refused", theCode
	case api.MsgProbe:
		return "probe", theTx
	case api.MsgSeen:
		return "seen", theTx | theEnd
	case api.MsgPing:
		return "ping", theFrom | theData
	case api.MsgPong:
		return "pong", theFrom | theData
	case api.MsgHello:
		return "hello", theFrom
	case api.MsgChallenge:
		return "challenge", theFrom | theTx
	case api.MsgProof:
		return "proof", theData
	case api.MsgSend:
		return "send", theTo | theData
	case api.MsgCame:
		return "came", theFrom | theData
	case api.MsgGone:
		return "gone", theTo
	case api.MsgInit:
		return "init", theIndex | theData
	case api.MsgResp:
		return "resp", theIndex | thePeer | theData
	case api.MsgLoad:
		return "load", thePeer | theCounter | theData
	case api.MsgAsk:
		return "ask", theFrom | theTx
	case api.MsgTold:
		return "told", theTx | theEnd
	}
	return "", 0
}

// value is what a field holds: one of these, by which field it is.
type value struct {
	number uint64
	text   string
	end    api.Endpoint
}

// through hands all fields of m to a step, one behind the other, those too that its
// type has not; it is m with what the step makes of them.
func through(m api.Msg, step func(one fields, v value) value) api.Msg {
	m.From = step(theFrom, value{text: m.From}).text
	m.To = step(theTo, value{text: m.To}).text
	m.Index = uint32(step(theIndex, value{number: uint64(m.Index)}).number)
	m.Peer = uint32(step(thePeer, value{number: uint64(m.Peer)}).number)
	m.Counter = step(theCounter, value{number: m.Counter}).number
	m.Base = step(theBase, value{number: m.Base}).number
	m.Version = step(theVersion, value{number: m.Version}).number
	m.Tx = step(theTx, value{text: m.Tx}).text
	m.End = step(theEnd, value{end: m.End}).end
	m.Code = uint16(step(theCode, value{number: uint64(m.Code)}).number)
	m.Text = step(theText, value{text: m.Text}).text
	m.Data = step(theData, value{text: m.Data}).text
	m.Sig = step(theSig, value{text: m.Sig}).text
	return m
}

// sizeOf is how many bytes the text of a field has that has always as many.
func sizeOf(one fields) int {
	switch one {
	case theTx:
		return api.MaxTx
	case theSig:
		return api.MaxSig
	}
	return api.Key
}

// mostOf is how many bytes the text of a field may have that may have fewer.
func mostOf(one fields) int {
	if one == theText {
		return api.MaxName
	}
	return api.MaxBytes
}
