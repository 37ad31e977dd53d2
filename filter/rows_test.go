package filter_test

import (
	"math"
	"math/rand"
	"testing"

	"isthmus/api"
	"isthmus/rules"
)

// log has when what could let an answer in was told last, of each flow.
type log struct {
	last map[api.Flow]uint64
	now  uint64
	life uint64
}

func (l *log) at(now uint64) { l.now = max(l.now, now) }

// lets: P21.5, something was told of f at most a life ago.
func (l *log) lets(f api.Flow) bool {
	then, is := l.last[f]
	return is && l.now-then < l.life
}

func (l *log) tell(f api.Flow) { l.last[f] = l.now }

// drawnFlow is one of few, some of which are others turned.
func drawnFlow(r *rand.Rand) api.Flow {
	f := api.Flow{
		Proto: []uint8{api.TCP, api.UDP, api.ICMP}[r.Intn(3)],
		Src:   four(1), Dst: four(2),
		From: uint16(r.Intn(3)), To: uint16(r.Intn(3)),
	}
	if r.Intn(4) == 0 {
		return turned(f)
	}
	return f
}

func drawnRules(r *rand.Rand) []api.Rule {
	var out []api.Rule
	for range max(0, r.Intn(8)-5) {
		x := only(drawnFlow(r))[0]
		if r.Intn(2) == 0 {
			x.Protos, x.Ports = nil, nil
		}
		out = append(out, x)
	}
	return out
}

// drawnNow goes on by some, now and then by much, or goes back, or is none.
func drawnNow(r *rand.Rand, now, life uint64) uint64 {
	switch r.Intn(20) {
	case 0:
		return now + life
	case 1:
		return now + life - 1
	case 2:
		return now - min(now, uint64(r.Intn(50)))
	case 3:
		return []uint64{0, api.MaxClock, math.MaxUint64}[r.Intn(3)]
	case 4, 5, 6:
		return now + uint64(r.Int63n(int64(life)))
	}
	return now + uint64(r.Intn(2))
}

// TestDrawn: P21.1 to P21.4 in rows of calls, and P21.5 of each that comes in.
func TestDrawn(t *testing.T) {
	r := rand.New(rand.NewSource(2121))
	for range 400 {
		life := []uint64{1, 2, 7, 50, api.MaxLife}[r.Intn(5)]
		p := newPair(t, drawnRules(r), 1+r.Intn(12), life)
		seen := &log{last: map[api.Flow]uint64{}, life: life}
		for range 200 {
			step(r, p, seen)
		}
	}
}

func step(r *rand.Rand, p *pair, seen *log) {
	p.Helper()
	f, now := drawnFlow(r), drawnNow(r, seen.now, seen.life)
	if now < api.MaxClock {
		seen.at(now)
	}
	h := api.Head{Flow: f, Size: r.Intn(9)}
	switch r.Intn(9) {
	case 0:
		p.set(drawnRules(r))
	case 1, 2, 3:
		err := p.f.Out(h, now)
		p.tell("Out(%v, %d)", h, now)
		p.is(err, p.m.out(h, now), either)
		if err == api.OK {
			seen.tell(turned(f))
		}
	default:
		err := p.f.In(h, now)
		p.tell("In(%v, %d)", h, now)
		p.is(err, p.m.in(h, now), either)
		byRule := rules.Match(p.m.rules, h) >= 0
		if now < api.MaxClock && (err == api.OK) != (byRule || seen.lets(f)) {
			p.Fatalf("%s: %v, a rule: %v, an answer: %v", p.name(), err, byRule, seen.lets(f))
		}
		if err == api.OK && !byRule {
			seen.tell(f)
		}
	}
	if n := len(p.f.Flows()); n > p.m.most {
		p.Fatalf("%s: %d flows", p.name(), n)
	}
}
