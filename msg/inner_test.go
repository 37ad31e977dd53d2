package msg

import (
	"math/bits"
	"testing"

	"isthmus/api"
)

// TestThrough: each field goes by once, in the order of the bits, and is what the step
// makes of it.
func TestThrough(t *testing.T) {
	m := api.Msg{
		Type: 9, From: "a", To: "b", Index: 1, Peer: 2, Counter: 3, Base: 4, Version: 5, Tx: "c",
		End: api.Endpoint{Port: 6}, Code: 7, Text: "d", Data: "e", Sig: "f",
	}
	next := theFrom
	same := through(m, func(one fields, v value) value {
		if one != next || v == (value{}) {
			t.Errorf("field %d behind %d: %v", one, next, v)
		}
		next <<= 1
		return v
	})
	if same != m || next != theSig<<1 || bits.OnesCount16(uint16(next-1)) != 13 {
		t.Errorf("%v, up to %d", same, next)
	}
	none := through(m, func(fields, value) value { return value{} })
	if none != (api.Msg{Type: 9}) {
		t.Errorf("%v", none)
	}
}

// TestRefuse: what an asker keeps, and what a reader does.
func TestRefuse(t *testing.T) {
	var a asker
	for _, c := range []struct {
		wrong     bool
		err, want api.Errno
	}{
		{false, api.ErrLong, api.OK}, {true, api.ErrLong, api.ErrLong}, {false, api.ErrField, api.ErrLong},
		{true, api.ErrField, api.ErrField}, {true, api.ErrLong, api.ErrField},
	} {
		if a.refuse(c.wrong, c.err); a.err != c.want {
			t.Errorf("asker: %v, want %v", a.err, c.want)
		}
	}
	r := readerOf("\x07")
	r.refuse(false, api.ErrForm)
	if r.fault() != api.OK || r.end() != api.OK {
		t.Errorf("reader: %v", r.fault())
	}
	r.refuse(true, api.ErrForm)
	r.refuse(true, api.ErrLong)
	if r.fault() != api.ErrForm || r.end() != api.ErrForm {
		t.Errorf("reader: %v", r.fault())
	}
	if r = readerOf(""); r.fault() != api.ErrShort || r.err != api.OK {
		t.Errorf("reader of nothing: %v, %v", r.fault(), r.err)
	}
	if r = readerOf("\x00abc"); r.fault() != api.ErrType || r.in.Left() != 3 {
		t.Errorf("reader of no type: %v", r.fault())
	}
}
