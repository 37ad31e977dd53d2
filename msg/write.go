package msg

import (
	"strings"

	"isthmus/api"
	"isthmus/code"
)

// The first byte of an End's bytes tells which version its address is of.
const (
	endFour = 4
	endSix  = 6
)

// writer puts the bytes of a message that may be one behind the other.
type writer struct {
	has fields
	out strings.Builder
}

// writerOf has written the type.
func writerOf(t uint8) *writer {
	w := &writer{}
	_, w.has = shapeOf(t)
	w.out.WriteByte(t)
	return w
}

func (w *writer) write(one fields, v value) value {
	if w.has&one != 0 {
		w.out.WriteString(bytesOf(one, v))
	}
	return v
}

// bytesOf are the bytes of a field.
func bytesOf(one fields, v value) string {
	switch one {
	case theIndex, thePeer:
		return code.U32(uint32(v.number))
	case theCounter, theBase, theVersion:
		return code.U64(v.number)
	case theCode:
		return code.U16(uint16(v.number))
	case theEnd:
		return endBytes(v.end)
	case theText, theData:
		s, _ := code.Text(v.text) // never too long: the message may be
		return s
	}
	return v.text
}

// endBytes are the bytes of an End whose address may be.
func endBytes(e api.Endpoint) string {
	if e.Addr.V6 {
		return string([]byte{endSix}) + code.U64(e.Addr.Hi) + code.U64(e.Addr.Lo) + code.U16(e.Port)
	}
	return string([]byte{endFour}) + code.U32(uint32(e.Addr.Lo)) + code.U16(e.Port)
}
