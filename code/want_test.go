package code_test

import (
	"encoding/binary"
	"fmt"
	"math"

	"isthmus/api"
	"isthmus/code"
)

// model is a reader as P12.2 and P12.3 write it, once more: all bytes, and how many
// of them are gone.
type model struct {
	all   string
	gone  int
	fault api.Errno
}

func (m *model) left() int { return len(m.all) - m.gone }

func (m *model) number(size int) uint64 {
	if m.fault == api.OK && m.left() < size {
		m.fault = api.ErrShort
	}
	if m.fault != api.OK {
		return 0
	}
	var b [8]byte
	copy(b[8-size:], m.all[m.gone:])
	m.gone += size
	return binary.BigEndian.Uint64(b[:])
}

func (m *model) take(n int) string {
	switch {
	case m.fault != api.OK:
	case n < 0:
		m.fault = api.ErrArg
	case m.left() < n:
		m.fault = api.ErrShort
	default:
		m.gone += n
		return m.all[m.gone-n : m.gone]
	}
	return ""
}

func (m *model) text() string {
	if m.fault != api.OK {
		return ""
	}
	if m.left() < 2 {
		m.fault = api.ErrShort
		return ""
	}
	n := 256*int(m.all[m.gone]) + int(m.all[m.gone+1])
	switch {
	case n > 32768:
		m.fault = api.ErrLong
	case m.left() < 2+n:
		m.fault = api.ErrShort
	default:
		m.gone += 2 + n
		return m.all[m.gone-n : m.gone]
	}
	return ""
}

func (m *model) end() api.Errno {
	switch {
	case m.fault != api.OK:
		return m.fault
	case m.left() > 0:
		return api.ErrForm
	}
	return api.OK
}

// step is one call, of a reader and of its model.
type step struct {
	name string
	got  func(r *code.Reader) any
	want func(m *model) any
}

func takes(n int) step {
	return step{fmt.Sprintf("Take(%d)", n), func(r *code.Reader) any { return r.Take(n) }, func(m *model) any { return m.take(n) }}
}

func readsByte() step {
	return step{"U8", func(r *code.Reader) any { return r.U8() }, func(m *model) any { return uint8(m.number(1)) }}
}

func readsText() step {
	return step{"Text", func(r *code.Reader) any { return r.Text() }, func(m *model) any { return m.text() }}
}

// steps are all calls, Take with numbers that may be there.
func steps() []step {
	return []step{
		readsByte(), readsText(), takes(0), takes(1), takes(3),
		{"U16", func(r *code.Reader) any { return r.U16() }, func(m *model) any { return uint16(m.number(2)) }},
		{"U32", func(r *code.Reader) any { return r.U32() }, func(m *model) any { return uint32(m.number(4)) }},
		{"U64", func(r *code.Reader) any { return r.U64() }, func(m *model) any { return m.number(8) }},
		{"Left", func(r *code.Reader) any { return r.Left() }, func(m *model) any { return m.left() }},
		{"Fault", func(r *code.Reader) any { return r.Fault() }, func(m *model) any { return m.fault }},
		{"End", func(r *code.Reader) any { return r.End() }, func(m *model) any { return m.end() }},
	}
}

// allSteps are those, and Take with numbers that never are: below 0, and such as go
// round if something is added to them.
func allSteps() []step {
	return append(steps(), takes(-1), takes(math.MaxInt), takes(math.MinInt))
}
