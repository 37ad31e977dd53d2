package netmap

import (
	"isthmus/api"
	"isthmus/code"
	"isthmus/sign"
)

// Sign is the signature of what is told of data, by a secret.
func Sign(secret string, base, version uint64, data string) (string, api.Errno) {
	return sign.Sign(secret, signed(base, version, data))
}

// Verify tells whether that is the signature of what is told of data, by the secret of a
// public key.
func Verify(public string, base, version uint64, data, sig string) bool {
	return sign.Verify(public, signed(base, version, data), sig)
}

// signed is what is told of data: from which version to which it leads, too, so that
// nobody passes it off as another one's.
func signed(base, version uint64, data string) string {
	return "isthmus netmap" + code.U64(base) + code.U64(version) + data
}

// Holder has the newest map that was taken.
type Holder struct {
	public string // nothing of a Holder that New did not make
	held   held
}

// held is what a holder has: a map, of version 0 if it took none.
type held struct {
	m     api.Map
	wants bool
}

// New is a holder that takes what the secret of this public key signed.
func New(public string) (*Holder, api.Errno) {
	if !isKey(public) {
		return nil, api.ErrArg
	}
	return &Holder{public: public, held: held{wants: true}}, api.OK
}

// Full takes the map that data is.
func (h *Holder) Full(version uint64, data, sig string) api.Errno {
	if !h.made() {
		return api.ErrNil
	}
	return h.take(h.full(version, data, sig))
}

// Delta takes what the delta that data is makes of the map that h has.
func (h *Holder) Delta(base, version uint64, data, sig string) api.Errno {
	if !h.made() {
		return api.ErrNil
	}
	return h.take(h.next(base, version, data, sig))
}

// Version is that of the map that h has; 0, if it has none.
func (h *Holder) Version() uint64 {
	if !h.made() {
		return 0
	}
	return h.held.m.Version
}

// Map is the map that h has.
func (h *Holder) Map() api.Map {
	if !h.made() {
		return api.Map{}
	}
	return Copy(h.held.m)
}

// Wants tells whether h wants a whole map.
func (h *Holder) Wants() bool { return h.made() && h.held.wants }

func (h *Holder) made() bool { return h != nil && h.public != "" }

// take puts m in the place of the map that h has; at an error that one stays, and a
// whole one is wanted.
func (h *Holder) take(m api.Map, err api.Errno) api.Errno {
	next := held{m: m}
	if err != api.OK {
		next = held{m: h.held.m, wants: true}
	}
	h.held = next
	return err
}

// full is the map that data is; h stays as it is.
func (h *Holder) full(version uint64, data, sig string) (api.Map, api.Errno) {
	if err := h.newer(0, version, data, sig); err != api.OK {
		return api.Map{}, err
	}
	m, err := Decode(data)
	switch {
	case err != api.OK:
		return api.Map{}, err
	case m.Version != version:
		return api.Map{}, api.ErrForm
	}
	return m, api.OK
}

// next is what the delta that data is makes of the map that h has; h stays as it is.
func (h *Holder) next(base, version uint64, data, sig string) (api.Map, api.Errno) {
	if err := h.newer(base, version, data, sig); err != api.OK {
		return api.Map{}, err
	}
	if h.Version() == 0 || base != h.Version() {
		return api.Map{}, api.ErrGap
	}
	d, err := DecodeDelta(data)
	switch {
	case err != api.OK:
		return api.Map{}, err
	case d.Base != base || d.Version != version:
		return api.Map{}, api.ErrForm
	}
	return Apply(h.held.m, d)
}

// newer tells whether that is signed, and of a version above that of the map that h has.
func (h *Holder) newer(base, version uint64, data, sig string) api.Errno {
	switch {
	case !Verify(h.public, base, version, data, sig):
		return api.ErrSign
	case version <= h.Version():
		return api.ErrStale
	}
	return api.OK
}
