package code

import "isthmus/api"

// Reader takes values off the front of bytes; its first fault stays.
type Reader struct {
	made  bool // by New: a Reader that is not has nothing, and gets no fault
	rest  string
	fault api.Errno
}

// New is a reader of s.
func New(s string) *Reader {
	return &Reader{made: true, rest: s}
}

// U8 is the number of the next byte.
func (r *Reader) U8() uint8 { return next[uint8](r) }

// U16 is the number of the next 2 bytes.
func (r *Reader) U16() uint16 { return next[uint16](r) }

// U32 is the number of the next 4 bytes.
func (r *Reader) U32() uint32 { return next[uint32](r) }

// U64 is the number of the next 8 bytes.
func (r *Reader) U64() uint64 { return next[uint64](r) }

// Take are the next n bytes.
func (r *Reader) Take(n int) string {
	if r.faulty(n < 0, api.ErrArg) || r.faulty(n > r.Left(), api.ErrShort) {
		return ""
	}
	s := r.rest[:n]
	r.rest = r.rest[n:]
	return s
}

// Text are so many bytes as the number ahead of them says.
func (r *Reader) Text() string {
	if r.Fault() != api.OK {
		return ""
	}
	whole := r.rest
	n := int(r.U16())
	s := ""
	if !r.faulty(n > api.MaxBytes, api.ErrLong) {
		s = r.Take(n)
	}
	if r.fault != api.OK {
		r.rest = whole // the number is not gone without its bytes
	}
	return s
}

// Left is how many bytes are left.
func (r *Reader) Left() int {
	if r == nil {
		return 0
	}
	return len(r.rest)
}

// Fault is the first fault, or OK.
func (r *Reader) Fault() api.Errno {
	if r == nil || !r.made {
		return api.ErrNil
	}
	return r.fault
}

// End is the first fault, or that bytes are left. That they are is none of r's
// faults: they may still be read.
func (r *Reader) End() api.Errno {
	if err := r.Fault(); err != api.OK {
		return err
	}
	if r.rest != "" {
		return api.ErrForm
	}
	return api.OK
}

// faulty tells whether r has a fault, which it gets now, if that is wrong and it
// had none. All that may go wrong goes through it, so that the first fault stays.
func (r *Reader) faulty(wrong bool, fault api.Errno) bool {
	if wrong && r.Fault() == api.OK {
		r.fault = fault
	}
	return r.Fault() != api.OK
}
