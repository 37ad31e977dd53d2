package netmap_test

import (
	"slices"
	"strings"
	"testing"

	"isthmus/api"
	"isthmus/netmap"
)

// next is m, changed, of the version behind its own.
func next(m api.Map, change func(m *api.Map)) api.Map {
	out := deep(m)
	out.Version++
	change(&out)
	return out
}

// TestDiffPeers: P22.3, each thing that there is of a peer, if it is another one; and
// nothing else is told.
func TestDiffPeers(t *testing.T) {
	for _, e := range peerEdits() {
		if !e.may || e.name == "any keys" {
			continue
		}
		for i := range 3 {
			a := town()
			a.Peers = plains(1, 3)
			b := next(a, func(m *api.Map) { e.do(&m.Peers[i]) })
			d := isDiff(t, a, b, api.OK)
			want := api.Delta{Base: a.Version, Version: b.Version, Set: b.Peers[i : i+1], Hash: netmap.Hash(b)}
			if alike(a.Peers, b.Peers) {
				want.Set = nil
			}
			if !alike(d, want) {
				t.Errorf("%s: %v", e.name, d)
			}
			isDiff(t, next(b, func(*api.Map) {}), next(a, func(m *api.Map) { m.Version += 5 }), api.OK)
		}
	}
}

// TestDiffFields: P22.3, all that may be another one in a map, one by one.
func TestDiffFields(t *testing.T) {
	a := town()
	names, others := changes(a)
	tried := 0
	for i, b := range others {
		b.Version = a.Version + 1
		if !wantMayMap(b) {
			continue
		}
		tried++
		d := isDiff(t, a, b, api.OK)
		peers, relays := strings.HasPrefix(names[i], ".Peers"), strings.HasPrefix(names[i], ".Relays")
		if (len(d.Set)+len(d.Gone) > 0) != peers || d.HasRelays != relays || d.HasPolicy != (names[i] == ".Policy") {
			t.Errorf("%s: %v", names[i], d)
		}
	}
	if tried < 40 {
		t.Errorf("%d changes", tried)
	}
}

// TestDiffMany: P22.3, peers that come, go and change, all together.
func TestDiffMany(t *testing.T) {
	a := api.Map{Version: 4, Peers: plains(10, 64)}
	for _, c := range []struct {
		set, gone int
		b         []api.Peer
	}{
		{0, 0, plains(10, 64)}, {0, 64, nil}, {0, 1, plains(10, 63)}, {0, 1, plains(11, 63)}, {64, 64, plains(100, 64)},
		{1, 1, plains(11, 64)}, {1, 1, plains(9, 64)}, {32, 32, plains(42, 64)}, {1, 63, plains(73, 2)}, {1, 64, plains(74, 1)},
	} {
		b := api.Map{Version: 9, Peers: c.b}
		if d := isDiff(t, a, b, api.OK); len(d.Set) != c.set || len(d.Gone) != c.gone || d.HasRelays || d.HasPolicy {
			t.Errorf("%d and %d: %v", c.set, c.gone, d)
		}
		b.Version = 1
		if d := isDiff(t, b, a, api.OK); len(d.Set) != 64-len(c.b)+c.set || d.HasRelays || d.HasPolicy {
			t.Errorf("back, %d and %d: %v", c.set, c.gone, d)
		}
	}
	b := next(a, func(m *api.Map) {
		for i := range m.Peers {
			m.Peers[i].Expiry++
		}
	})
	if d := isDiff(t, a, b, api.OK); len(d.Set) != 64 || len(d.Gone) != 0 {
		t.Errorf("all: %v", d)
	}
}

// TestDiffRest: P22.3, relays and policies that come, go and change.
func TestDiffRest(t *testing.T) {
	none := api.Map{Version: 7}
	full := api.Map{Version: 7, Relays: town().Relays, Policy: "#"}
	for _, c := range []struct {
		a, b           api.Map
		relays, policy bool
	}{
		{none, none, false, false}, {full, full, false, false}, {none, full, true, true}, {full, none, true, true},
		{full, api.Map{Policy: "#"}, true, false}, {full, api.Map{Relays: full.Relays}, false, true},
		{full, api.Map{Policy: "#", Relays: full.Relays[:3]}, true, false}, {full, api.Map{Relays: full.Relays, Policy: "# "}, false, true},
		{none, api.Map{Policy: "\n"}, false, true}, {none, api.Map{Relays: full.Relays[:1]}, true, false},
	} {
		b := c.b
		b.Version = 8
		d := isDiff(t, c.a, b, api.OK)
		want := api.Delta{Base: 7, Version: 8, HasRelays: c.relays, HasPolicy: c.policy, Hash: netmap.Hash(b)}
		if c.relays {
			want.Relays = b.Relays
		}
		if c.policy {
			want.Policy = b.Policy
		}
		if !alike(d, want) {
			t.Errorf("from %v to %v: %v", c.a, b, d)
		}
	}
}

// long is a map that has more bytes than it may.
func long(version uint64) api.Map { return filled(crowd(version, 64), 32769) }

// TestDiffErrors: P22.3, whichever is wrong, and its order.
func TestDiffErrors(t *testing.T) {
	bad := api.Map{}
	for _, c := range []struct {
		a, b api.Map
		want api.Errno
	}{
		{bad, bad, api.ErrMap}, {bad, small(1), api.ErrMap}, {small(1), bad, api.ErrMap},
		{long(1), bad, api.ErrLong}, {bad, long(1), api.ErrMap}, {long(2), long(1), api.ErrLong}, {long(1), small(2), api.ErrLong}, {small(1), long(2), api.ErrLong},
		{small(3), long(2), api.ErrLong}, {small(3), api.Map{Version: 2, Policy: "x"}, api.ErrMap},
		{small(2), small(2), api.ErrArg}, {small(3), small(2), api.ErrArg}, {small(1<<64 - 1), small(1), api.ErrArg}, {small(1<<64 - 1), small(1<<64 - 1), api.ErrArg},
		{small(1), small(2), api.OK}, {small(1), small(1<<64 - 1), api.OK}, {small(1<<64 - 2), small(1<<64 - 1), api.OK},
		{small(1), filled(crowd(2, 64), 32768), api.OK}, {filled(crowd(2, 64), 32768), small(3), api.OK},
	} {
		isDiff(t, c.a, c.b, c.want)
	}
}

// TestLongDelta: P22.3, what is new may be too much to be written, and still makes the
// other map.
func TestLongDelta(t *testing.T) {
	a := api.Map{Version: 1, Peers: plains(100, 64)}
	b := filled(crowd(2, 64), 32768)
	d := isDiff(t, a, b, api.OK)
	isDelta(t, d, api.ErrLong)
	isApply(t, a, d, api.OK)
}

// hashed is d, whose Hash is that of the map that it makes of m, if it makes one.
func hashed(m api.Map, d api.Delta) api.Delta {
	peers := byKey(m.Peers)
	for _, key := range d.Gone {
		delete(peers, key)
	}
	out := api.Map{Version: d.Version, Relays: m.Relays, Policy: m.Policy}
	for _, p := range d.Set {
		peers[p.Key] = p
	}
	for _, p := range peers {
		out.Peers = append(out.Peers, p)
	}
	slices.SortFunc(out.Peers, func(a, b api.Peer) int { return strings.Compare(a.Key, b.Key) })
	if d.HasRelays {
		out.Relays = d.Relays
	}
	if d.HasPolicy {
		out.Policy = d.Policy
	}
	d.Hash = key(0)
	if s := netmap.Hash(out); s != "" {
		d.Hash = s
	}
	return d
}

// TestApply: P22.3, where peers come to stand, and what stays.
func TestApply(t *testing.T) {
	m := town()
	m.Version = 5
	m.Peers = []api.Peer{plain(10), plain(20), plain(30)}
	m.Peers[1].Relay = 9
	for _, c := range []struct {
		set, gone []int
		want      []int
	}{
		{nil, nil, []int{10, 20, 30}}, {[]int{20}, nil, []int{10, 20, 30}}, {[]int{10, 30}, []int{20}, []int{10, 30}},
		{[]int{5}, nil, []int{5, 10, 20, 30}}, {[]int{15, 25, 35}, nil, []int{10, 15, 20, 25, 30, 35}}, {[]int{35, 36}, []int{10, 20, 30}, []int{35, 36}},
		{nil, []int{10, 20, 30}, nil}, {[]int{9, 10, 11}, []int{20}, []int{9, 10, 11, 30}}, {[]int{10, 20, 30, 40}, nil, []int{10, 20, 30, 40}},
	} {
		d := api.Delta{Base: 5, Version: 6}
		for _, n := range c.set {
			p := plain(n)
			p.User = "set"
			d.Set = append(d.Set, p)
		}
		for _, n := range c.gone {
			d.Gone = append(d.Gone, key(n))
		}
		d = hashed(m, d)
		got := isApply(t, m, d, api.OK)
		var want []api.Peer
		for _, n := range c.want {
			p := plain(n)
			if n == 20 {
				p.Relay = 9
			}
			if slices.Contains(c.set, n) {
				p = plain(n)
				p.User = "set"
			}
			want = append(want, p)
		}
		if got.Version != 6 || !alike(got.Peers, want) || !alike(got.Relays, m.Relays) || got.Policy != m.Policy {
			t.Errorf("%v set, %v gone: %v", c.set, c.gone, got)
		}
	}
}

// TestApplySame: P22.3, what a delta tells anew may be what there is already.
func TestApplySame(t *testing.T) {
	m := town()
	d := api.Delta{Base: m.Version, Version: m.Version + 9, Set: m.Peers, HasRelays: true, Relays: m.Relays, HasPolicy: true, Policy: m.Policy}
	got := isApply(t, m, hashed(m, d), api.OK)
	got.Version = m.Version
	if !alike(got, m) {
		t.Errorf("%v became %v", m, got)
	}
}

// TestApplyErrors: P22.3, whichever is wrong, and its order.
func TestApplyErrors(t *testing.T) {
	m := town()
	m.Version = 5
	fine := api.Delta{Base: 5, Version: 6, Set: []api.Peer{plain(5)}, Gone: []string{key(1)}}
	changed := func(change func(d *api.Delta)) api.Delta {
		d := deep(fine)
		change(&d)
		return hashed(m, d)
	}
	bad := m
	bad.Version = 0
	for _, c := range []struct {
		name string
		m    api.Map
		d    api.Delta
		want api.Errno
	}{
		{"fine", m, hashed(m, fine), api.OK},
		{"a bad map", bad, hashed(m, fine), api.ErrMap},
		{"a bad map, and a delta for it", bad, changed(func(d *api.Delta) { d.Base = 0 }), api.ErrMap},
		{"a long map", long(5), hashed(m, fine), api.ErrLong},
		{"a long map, a bad delta", long(5), api.Delta{}, api.ErrLong},
		{"a long map, another base", long(6), hashed(m, fine), api.ErrLong},
		{"a long map that would be short", long(5), hashed(long(5), api.Delta{Base: 5, Version: 6, HasPolicy: true}), api.ErrLong},
		{"a bad delta", m, fine, api.ErrMap},
		{"a bad delta of another base", m, api.Delta{Base: 6, Version: 6}, api.ErrMap},
		{"an older base", m, changed(func(d *api.Delta) { d.Base = 4 }), api.ErrGap},
		{"a newer base", m, changed(func(d *api.Delta) { d.Base, d.Version = 6, 7 }), api.ErrGap},
		{"another base, and nobody gone", m, changed(func(d *api.Delta) { d.Base, d.Gone = 4, []string{key(7)} }), api.ErrGap},
		{"another base, another hash", m, api.Delta{Base: 4, Version: 5, Hash: key(1)}, api.ErrGap},
		{"one gone that is not there", m, changed(func(d *api.Delta) { d.Gone = []string{key(7)} }), api.ErrMap},
		{"the last gone is not there", m, changed(func(d *api.Delta) { d.Gone = []string{key(1), key(7)} }), api.ErrMap},
		{"the first gone is not there", m, changed(func(d *api.Delta) { d.Gone = []string{key(0), key(1)} }), api.ErrMap},
		{"nobody gone, another hash", m, api.Delta{Base: 5, Version: 6, Gone: []string{key(7)}, Hash: key(1)}, api.ErrMap},
		{"gone by its disco", m, changed(func(d *api.Delta) { d.Gone = []string{m.Peers[1].Disco} }), api.ErrMap},
		{"an addr that is there", m, changed(func(d *api.Delta) { d.Set[0].Addrs = []api.Addr{six(0, 1)} }), api.ErrMap},
		{"an addr of one that is gone", m, changed(func(d *api.Delta) { d.Set[0].Addrs = []api.Addr{four(1)} }), api.OK},
		{"an addr twice", m, changed(func(d *api.Delta) { d.Set = append(d.Set, plain(6)); d.Set[1].Addrs = d.Set[0].Addrs }), api.ErrMap},
		{"an addr that goes on", m, changed(func(d *api.Delta) {
			d.Set = []api.Peer{m.Peers[2], plain(5)}
			d.Set[0].Addrs = []api.Addr{four(66)}
			d.Set[1].Addrs = []api.Addr{six(7, 7)}
		}), api.OK},
		{"a relay that there is not", m, changed(func(d *api.Delta) { d.Set[0].Relay = 2 }), api.ErrMap},
		{"a relay that there is", m, changed(func(d *api.Delta) { d.Set[0].Relay = 255 }), api.OK},
		{"a relay that goes", m, changed(func(d *api.Delta) { d.HasRelays, d.Relays = true, m.Relays[:2] }), api.ErrMap},
		{"all relays go", m, changed(func(d *api.Delta) { d.HasRelays = true }), api.ErrMap},
		{"a relay that comes", m, changed(func(d *api.Delta) {
			d.HasRelays, d.Relays, d.Set[0].Relay = true, append([]api.RelayInfo{{ID: 0, Key: key(1)}}, relays(9)[:]...)[:8], 7
		}), api.ErrMap},
		{"relays that come", m, changed(func(d *api.Delta) {
			d.HasRelays, d.Relays, d.Set[0].Relay = true, append(relays(3), m.Relays[2]), 3
		}), api.OK},
		{"another hash", m, api.Delta{Base: 5, Version: 6, Set: fine.Set, Gone: fine.Gone, Hash: key(1)}, api.ErrHash},
		{"the hash of the old one", m, api.Delta{Base: 5, Version: 6, Hash: netmap.Hash(m)}, api.ErrHash},
		{"a byte of the hash", m, func() api.Delta {
			d := hashed(m, fine)
			d.Hash = d.Hash[:31] + string([]byte{d.Hash[31] ^ 1})
			return d
		}(), api.ErrHash},
		{"too long", filled(crowd(5, 64), 32768), hashed(m, api.Delta{Base: 5, Version: 6, HasRelays: true, Relays: relays(1)}), api.ErrLong},
		{"too long, and may not be", filled(crowd(5, 64), 32768), hashed(m, api.Delta{Base: 5, Version: 6, Set: []api.Peer{plain(99)}}), api.ErrMap},
		{"too many", api.Map{Version: 5, Peers: plains(100, 64)}, hashed(m, fine), api.ErrMap},
		{"as many as may be", api.Map{Version: 5, Peers: plains(100, 63)}, hashed(api.Map{Version: 5, Peers: plains(100, 63)}, api.Delta{Base: 5, Version: 6, Set: []api.Peer{plain(5)}}), api.OK},
		{"one too many", api.Map{Version: 5, Peers: plains(100, 64)}, hashed(m, api.Delta{Base: 5, Version: 6, Set: []api.Peer{plain(5)}}), api.ErrMap},
		{"one comes, one goes", api.Map{Version: 5, Peers: plains(100, 64)}, hashed(api.Map{Version: 5, Peers: plains(100, 64)}, api.Delta{Base: 5, Version: 6, Set: []api.Peer{plain(5)}, Gone: []string{key(100)}}), api.OK},
	} {
		t.Run(c.name, func(t *testing.T) { isApply(t, c.m, c.d, c.want) })
	}
}

// TestDeltaMayNot: P22.3, all deltas that may not be, and such as may, to a map of their
// base.
func TestDeltaMayNot(t *testing.T) {
	m := town()
	m.Version = 7
	m.Peers = append(m.Peers[:3:3], plain(7), m.Peers[3])
	for _, e := range deltaEdits() {
		d := news()
		e.do(&d)
		_, want := wantApply(m, d)
		if !e.may && want != api.ErrMap {
			t.Errorf("a fault of the test: %s: %v", e.name, want)
		}
		isApply(t, m, d, want)
	}
}
