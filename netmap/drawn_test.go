package netmap_test

import (
	"fmt"
	"math/rand"
	"testing"

	"isthmus/api"
	"isthmus/netmap"
)

// drawnSome are some of l, in order.
func drawnSome[T any](r *rand.Rand, l []T) []T {
	var out []T
	for _, x := range l {
		if r.Intn(2) == 0 {
			out = append(out, x)
		}
	}
	return out
}

// drawnMap may be: of few peers and relays, so that two have much in common.
func drawnMap(r *rand.Rand, version uint64) api.Map {
	m := api.Map{Version: version, Policy: []string{"", "#", "accept any from * to *"}[r.Intn(3)]}
	ids := []uint8{0}
	for _, x := range drawnSome(r, town().Relays) {
		if r.Intn(4) == 0 {
			x.End.Port++
		}
		m.Relays = append(m.Relays, x)
		ids = append(ids, x.ID)
	}
	for n := range 6 {
		if r.Intn(3) == 0 {
			continue
		}
		p := plain(n)
		p.Disco = key(0x1000 + r.Intn(2))
		p.User = []string{"ann", "bob"}[r.Intn(2)]
		p.Tags = drawnSome(r, []string{"a", "b"})
		p.Addrs = append(drawnSome(r, []api.Addr{four(uint64(n))}), six(uint64(n), uint64(r.Intn(2))))
		p.Expiry = uint64(r.Intn(2))
		p.Relay = ids[r.Intn(len(ids))]
		p.Ends = drawnSome(r, ends(2))
		m.Peers = append(m.Peers, p)
	}
	return m
}

// TestDrawnPairs: P22.1, P22.2, P22.3, P22.6, of two maps that may be: what is new, and what
// that makes of either; and of deltas of which something is another one.
func TestDrawnPairs(t *testing.T) {
	r := rand.New(rand.NewSource(223))
	for range 400 {
		a := drawnMap(r, uint64(1+r.Intn(3)))
		b := drawnMap(r, a.Version+uint64(1+r.Intn(2)))
		isMap(t, a, api.OK)
		isSame(t, a, b, false, "versions")
		d := isDiff(t, a, b, api.OK)
		isDelta(t, d, api.OK)
		b.Version, a.Version = a.Version, b.Version
		isSame(t, a, b, alike(a, b), "drawn")
		isDiff(t, b, a, api.OK)
		_, others := changes(d)
		for range 20 {
			x := others[r.Intn(len(others))]
			m := []api.Map{a, b, next(b, func(m *api.Map) { m.Version = d.Base })}[r.Intn(3)]
			_, want := wantApply(m, x)
			isApply(t, m, x, want)
		}
	}
}

// TestDrawnMaps: P22.1 and P22.3, of maps of which a few things are others than may be.
func TestDrawnMaps(t *testing.T) {
	r := rand.New(rand.NewSource(2222))
	tried := map[api.Errno]int{}
	for range 900 {
		m := drawnMap(r, uint64(r.Intn(9)))
		for range 1 + r.Intn(2) {
			_, others := changes(m)
			m = others[r.Intn(len(others))]
		}
		want := wantMay(wantMayMap(m), wantBytes(m))
		tried[want]++
		isMap(t, m, want)
		other := drawnMap(r, 9)
		_, err := wantDiff(m, other)
		isDiff(t, m, other, err)
	}
	if tried[api.OK] < 100 || tried[api.ErrMap] < 100 {
		t.Errorf("drawn so: %v", tried)
	}
}

// TestDrawnHolders: P22.5 and P22.6, news of a server whose map changes, that come late,
// twice, forged, or not at all. What a holder has is the server's map of that version.
func TestDrawnHolders(t *testing.T) {
	r := rand.New(rand.NewSource(22222))
	for range 40 {
		p := newPair(t)
		server := []api.Map{drawnMap(r, 1)}
		for range 40 {
			if r.Intn(2) == 0 {
				server = append(server, drawnMap(r, uint64(len(server)+1)))
			}
			to := server[len(server)-1-r.Intn(min(3, len(server)))]
			x := fullOf(fmt.Sprintf("full %d", to.Version), to.Version, wantBytes(to))
			if base := uint64(1 + r.Intn(len(server))); base < to.Version {
				x = deltaOf(fmt.Sprintf("delta %d to %d", base, to.Version), base, to.Version, deltaBytes(server[base-1], to))
			}
			switch r.Intn(12) {
			case 0:
				x.version++
			case 1:
				x.base++
			case 2:
				x.data += "x"
			case 3:
				x.delta = !x.delta
			}
			p.tell(x, either)
			if v := p.h.Version(); v > 0 && !netmap.Same(p.h.Map(), server[v-1]) {
				t.Fatalf("%v: %v is not the server's map", p.told, p.h.Map())
			}
		}
		last := server[len(server)-1]
		p.tell(fullOf("the last one", last.Version, wantBytes(last)), either)
		if p.h.Version() != last.Version {
			t.Fatalf("%v: not the last one", p.told)
		}
	}
}
