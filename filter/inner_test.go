package filter

import (
	"math"
	"math/rand"
	"reflect"
	"testing"

	"isthmus/api"
)

// isWhole: the flows by themselves and those in order are the same ones, no more than
// there may be, and all of them may still come in.
func isWhole(t *testing.T, f *Filter) {
	t.Helper()
	a := f.answers
	if len(a.byFlow) != len(a.list) || len(a.list) > a.most {
		t.Fatalf("%d by themselves, %d in order, of %d", len(a.byFlow), len(a.list), a.most)
	}
	for _, l := range a.list {
		if a.byFlow[l.Flow] != l {
			t.Fatalf("%v is another one by itself", l)
		}
		if l.Until <= a.now || l.Until > a.now+a.life {
			t.Fatalf("%v is there at %d, for a life of %d", l, a.now, a.life)
		}
	}
}

// TestBoth: what is kept twice is the same, whatever was told.
func TestBoth(t *testing.T) {
	r := rand.New(rand.NewSource(21))
	for range 300 {
		f, _ := New(nil, 1+r.Intn(9), uint64(1+r.Intn(30)))
		now := uint64(0)
		for range 200 {
			h := api.Head{Flow: api.Flow{From: uint16(r.Intn(4)), To: uint16(r.Intn(4))}}
			now += uint64(r.Intn(4))
			if r.Intn(2) == 0 {
				f.Out(h, now-uint64(r.Intn(2))*min(now, 9))
			} else {
				f.In(h, now)
			}
			isWhole(t, f)
		}
	}
}

// TestKeepsNoMore: room for flows does not grow with how many went.
func TestKeepsNoMore(t *testing.T) {
	f, _ := New(nil, 8, 4)
	for n := range 100000 {
		f.Out(api.Head{Flow: api.Flow{From: uint16(n)}}, uint64(n))
	}
	isWhole(t, f)
	if len(f.answers.list) != 4 || cap(f.answers.list) > 16 {
		t.Errorf("%d flows, room for %d", len(f.answers.list), cap(f.answers.list))
	}
}

// TestRefusedChangesNothing: a time that may not be, and what only tells, leave all.
func TestRefusedChangesNothing(t *testing.T) {
	f, _ := New([]api.Rule{{}}, 3, 10)
	f.Out(api.Head{Flow: api.Flow{From: 1}}, 5)
	was := copyOf(f)
	for _, now := range []uint64{api.MaxClock, math.MaxUint64} {
		for n := range uint16(3) {
			f.Out(api.Head{Flow: api.Flow{From: n}}, now)
			f.In(api.Head{Flow: api.Flow{To: n}}, now)
		}
	}
	f.Flows()
	f.Rules()
	if !reflect.DeepEqual(f, was) {
		t.Errorf("%+v was %+v", f, was)
	}
}

func copyOf(f *Filter) *Filter {
	a := *f.answers
	a.byFlow = map[api.Flow]*api.Live{}
	a.list = nil
	for _, l := range f.answers.list {
		c := *l
		a.byFlow[c.Flow] = &c
		a.list = append(a.list, &c)
	}
	return &Filter{rules: copyRules(f.rules), answers: &a}
}

// TestNoneStaysNone: what New did not make is as it was, behind every call.
func TestNoneStaysNone(t *testing.T) {
	var f Filter
	f.Set([]api.Rule{{}})
	f.Out(api.Head{}, 1)
	f.In(api.Head{}, 2)
	f.Flows()
	f.Rules()
	if !reflect.DeepEqual(f, Filter{}) {
		t.Errorf("%+v", f)
	}
}
