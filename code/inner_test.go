package code

import (
	"testing"

	"isthmus/api"
)

func TestSizeOf(t *testing.T) {
	if sizeOf[uint8]() != 1 || sizeOf[uint16]() != 2 || sizeOf[uint32]() != 4 || sizeOf[uint64]() != 8 {
		t.Error(sizeOf[uint8](), sizeOf[uint16](), sizeOf[uint32](), sizeOf[uint64]())
	}
}

// TestFaulty: a fault is kept if it is the first one, and if that is wrong at all.
func TestFaulty(t *testing.T) {
	r := New("a")
	for _, c := range []struct {
		wrong bool
		fault api.Errno
		want  api.Errno
	}{
		{false, api.ErrArg, api.OK},
		{true, api.ErrLong, api.ErrLong},
		{false, api.ErrArg, api.ErrLong},
		{true, api.ErrShort, api.ErrLong},
	} {
		if is := r.faulty(c.wrong, c.fault); is != (c.want != api.OK) || r.fault != c.want || r.rest != "a" {
			t.Errorf("%v, %v: %v, %v", c.wrong, c.fault, is, r.fault)
		}
	}
}

// TestNoneStaysNone: what New did not make is as it was, behind every call.
func TestNoneStaysNone(t *testing.T) {
	var r Reader
	r.U8()
	r.U16()
	r.U32()
	r.U64()
	r.Take(-1)
	r.Take(0)
	r.Take(1)
	r.Text()
	r.Left()
	r.Fault()
	r.End()
	if r != (Reader{}) {
		t.Errorf("%+v", r)
	}
}

// TestAsksChangeNothing: Left, Fault and End leave a reader as it was.
func TestAsksChangeNothing(t *testing.T) {
	for _, r := range []*Reader{New(""), New("abc"), {made: true, rest: "abc", fault: api.ErrShort}, {made: true, fault: api.ErrArg}} {
		was := *r
		r.Left()
		r.Fault()
		r.End()
		if *r != was {
			t.Errorf("%+v was %+v", *r, was)
		}
	}
}

// TestKeepsNoMore: what is gone is not kept.
func TestKeepsNoMore(t *testing.T) {
	r := New("\x00\x01xy")
	r.Text()
	if r.rest != "y" {
		t.Errorf("%q", r.rest)
	}
}
