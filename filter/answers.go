package filter

import (
	"slices"

	"isthmus/api"
)

// answers are the flows that may come in, each till its time: by themselves, and in the
// order in which they came to be. Both have the same ones.
type answers struct {
	most   int
	life   uint64
	now    uint64
	byFlow map[api.Flow]*api.Live
	list   []*api.Live
}

func noAnswers(most int, life uint64) *answers {
	return &answers{most: most, life: life, byFlow: map[api.Flow]*api.Live{}}
}

// pass lets the time become now, if that is later, and the flows go whose time has come.
func (a *answers) pass(now uint64) {
	a.now = max(a.now, now)
	goes := func(l *api.Live) bool {
		if l.Until > a.now {
			return false
		}
		delete(a.byFlow, l.Flow)
		return true
	}
	a.list = slices.DeleteFunc(a.list, goes)
}

// until is the time till which a flow may come in that is told of now.
func (a *answers) until() uint64 { return a.now + a.life }

// renew gives the flow x another life, if it is there.
func (a *answers) renew(x api.Flow) bool {
	l, is := a.byFlow[x]
	if is {
		l.Until = a.until()
	}
	return is
}

// add puts the flow x, which is not there, behind the others, if there is room.
func (a *answers) add(x api.Flow) api.Errno {
	if len(a.list) >= a.most {
		return api.ErrFull
	}
	l := &api.Live{Flow: x, Until: a.until()}
	a.byFlow[x] = l
	a.list = append(a.list, l)
	return api.OK
}

func (a *answers) all() []api.Live {
	var out []api.Live
	for _, l := range a.list {
		out = append(out, *l)
	}
	return out
}
