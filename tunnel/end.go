package tunnel

import (
	"isthmus/aead"
	"isthmus/api"
	"isthmus/window"
)

// end is what one end has. The window is that of the numbers that it opened.
type end struct {
	*window.Window
	age        func(now uint64) uint64
	limits     api.Limits
	send, recv string // without a byte, once they are wiped
	first      bool
	sure       bool
	sent       uint64
}

// mayBe tells whether limits may be, but for the window's, which are its own.
func mayBe(l api.Limits) bool {
	return 1 <= l.RekeyCount && l.RekeyCount <= l.Count && l.Count <= api.MaxCount &&
		1 <= l.Rekey && l.Rekey <= l.Life && l.Life <= api.MaxTicks
}

// ageSince tells the age of what was made then.
func ageSince(made uint64) func(now uint64) uint64 {
	return func(now uint64) uint64 { return max(now, made) - made }
}

func (e *end) wiped() bool { return e.send == "" }

func (e *end) over(now uint64) bool { return e.wiped() || e.age(now) >= e.limits.Life }

func (e *end) spent() bool { return e.sent >= e.limits.Count }

func (e *end) wants(now uint64) bool {
	return e.first && !e.over(now) && (e.sent >= e.limits.RekeyCount || e.age(now) >= e.limits.Rekey)
}

// sealFault is why nothing can be sealed, whatever it is.
func (e *end) sealFault(now uint64) api.Errno {
	switch {
	case e.over(now), e.spent():
		return api.ErrOver
	case !e.sure:
		return api.ErrState
	}
	return api.OK
}

// seal counts s only if it was sealed: no number is left out.
func (e *end) seal(s string) (uint64, string, api.Errno) {
	n := e.sent
	c, err := aead.Seal(e.send, aead.Nonce(n), "", s)
	if err != api.OK {
		return 0, "", err
	}
	e.sent++
	return n, c, api.OK
}

// openFault is why nothing with the number n can be opened, whatever it is.
func (e *end) openFault(now, n uint64) api.Errno {
	if e.over(now) || n >= e.limits.Count {
		return api.ErrOver
	}
	return e.May(n)
}

// open marks n only behind the tag: anybody may make up a number.
func (e *end) open(n uint64, c string) (string, api.Errno) {
	s, err := aead.Open(e.recv, aead.Nonce(n), "", c)
	if err != api.OK {
		return "", err
	}
	e.Mark(n)
	e.sure = true
	return s, api.OK
}

func (e *end) wipe() { e.send, e.recv = "", "" }
