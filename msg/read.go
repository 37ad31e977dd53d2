package msg

import (
	"isthmus/api"
	"isthmus/code"
)

// reader takes the fields of a message off the front of its bytes.
type reader struct {
	kind uint8
	has  fields
	in   *code.Reader
	err  api.Errno // a fault that in knows nothing of
}

// readerOf has read the type.
func readerOf(s string) *reader {
	r := &reader{in: code.New(s)}
	r.kind = r.in.U8()
	_, r.has = shapeOf(r.kind)
	r.refuse(r.has == 0, api.ErrType)
	return r
}

// read goes on behind a fault, too: the first one stays, whatever comes of the others.
func (r *reader) read(one fields, _ value) value {
	if r.has&one == 0 {
		return value{}
	}
	switch one {
	case theIndex, thePeer:
		return value{number: uint64(r.in.U32())}
	case theCounter, theBase, theVersion:
		return value{number: r.in.U64()}
	case theCode:
		return value{number: uint64(r.in.U16())}
	case theEnd:
		return value{end: r.readEnd()}
	case theText, theData:
		return value{text: r.readText(mostOf(one))}
	}
	return value{text: r.in.Take(sizeOf(one))}
}

func (r *reader) readEnd() api.Endpoint {
	var e api.Endpoint
	switch r.in.U8() {
	case endFour:
		e.Addr.Lo = uint64(r.in.U32())
	case endSix:
		e.Addr.V6 = true
		e.Addr.Hi = r.in.U64()
		e.Addr.Lo = r.in.U64()
	default:
		r.refuse(true, api.ErrForm)
	}
	e.Port = r.in.U16()
	return e
}

// readText is a text of at most so many bytes. Its length is enough to tell that it
// has more, whether they are there or not.
func (r *reader) readText(most int) string {
	size := int(r.in.U16())
	r.refuse(size > most, api.ErrLong)
	return r.in.Take(size)
}

// refuse keeps a fault, if that is wrong and there was none.
func (r *reader) refuse(wrong bool, err api.Errno) {
	if wrong && r.fault() == api.OK {
		r.err = err
	}
}

// fault is the first fault, or OK. One of its own came ahead of any of in, since it is
// kept only while in has none.
func (r *reader) fault() api.Errno {
	if r.err != api.OK {
		return r.err
	}
	return r.in.Fault()
}

// end is the first fault, or that bytes are left.
func (r *reader) end() api.Errno {
	if err := r.fault(); err != api.OK {
		return err
	}
	return r.in.End()
}
