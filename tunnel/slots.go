package tunnel

import (
	"slices"

	"isthmus/api"
)

// Slots are the tunnels that one has with another one, the newest last.
type Slots struct {
	made bool // else NewSlots did not make them
	list []slot
}

type slot struct {
	id     uint32
	tunnel *Tunnel
}

// NewSlots are slots without tunnels.
func NewSlots() *Slots { return &Slots{made: true} }

// Put takes t in as the newest one. If there is no room for it, the oldest one goes.
func (s *Slots) Put(id uint32, t *Tunnel) api.Errno {
	switch {
	case !s.there():
		return api.ErrNil
	case !t.there():
		return api.ErrArg
	case slices.ContainsFunc(s.list, has(id)):
		return api.ErrThere
	}
	s.list = append(s.list, slot{id, t})
	if len(s.list) > api.MaxSlots {
		s.drop(has(s.list[0].id))
	}
	return api.OK
}

// Get is the tunnel of that id, over or not.
func (s *Slots) Get(id uint32) (*Tunnel, api.Errno) {
	if !s.there() {
		return nil, api.ErrNil
	}
	i := slices.IndexFunc(s.list, has(id))
	if i < 0 {
		return nil, api.ErrNone
	}
	return s.list[i].tunnel, api.OK
}

// Best is the newest one that seals texts now, and its id.
func (s *Slots) Best(now uint64) (uint32, *Tunnel, api.Errno) {
	if !s.there() {
		return 0, nil, api.ErrNil
	}
	for _, x := range slices.Backward(s.list) {
		if x.tunnel.end.sealFault(now) == api.OK {
			return x.id, x.tunnel, api.OK
		}
	}
	return 0, nil, api.ErrNone
}

// Tidy lets those go that are over: their ids.
func (s *Slots) Tidy(now uint64) []uint32 {
	if !s.there() {
		return nil
	}
	return s.drop(func(x slot) bool { return x.tunnel.Over(now) })
}

// IDs are the ids of all, the newest last.
func (s *Slots) IDs() []uint32 {
	if !s.there() {
		return nil
	}
	var out []uint32
	for _, x := range s.list {
		out = append(out, x.id)
	}
	return out
}

func (s *Slots) there() bool { return s != nil && s.made }

// has asks a slot for its id.
func has(id uint32) func(slot) bool {
	return func(x slot) bool { return x.id == id }
}

// drop wipes those that go, and cuts them out: their ids. Whoever goes must still do so
// once it is wiped.
func (s *Slots) drop(goes func(slot) bool) []uint32 {
	var out []uint32
	for _, x := range s.list {
		if goes(x) {
			x.tunnel.Wipe()
			out = append(out, x.id)
		}
	}
	s.list = slices.DeleteFunc(s.list, goes)
	return out
}
