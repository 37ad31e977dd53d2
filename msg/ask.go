package msg

import (
	"isthmus/api"
	"isthmus/ip"
)

// asker asks the fields of a message whether they may be.
type asker struct {
	has fields
	err api.Errno
}

func (a *asker) ask(one fields, v value) value {
	switch {
	case a.has&one == 0:
		a.refuse(v != value{}, api.ErrField)
	case one&(theFrom|theTo|theTx|theSig) != 0:
		a.refuse(len(v.text) != sizeOf(one), api.ErrField)
	case one == theEnd:
		a.refuse(!mayAddr(v.end.Addr), api.ErrField)
	case one&(theText|theData) != 0:
		a.refuse(len(v.text) > mostOf(one), api.ErrLong)
	}
	return v
}

// refuse keeps an error, if that is wrong. ErrField stays, as it is told ahead of
// ErrLong, whichever field has it.
func (a *asker) refuse(wrong bool, err api.Errno) {
	if wrong && a.err != api.ErrField {
		a.err = err
	}
}

// mayAddr tells whether a may be: a packet from it to itself may then, too.
func mayAddr(a api.Addr) bool {
	return ip.May(api.Packet{Src: a, Dst: a}) == api.OK
}
