package netmap_test

import (
	"reflect"
	"slices"
	"strings"
	"testing"

	"isthmus/api"
	"isthmus/netmap"
	"isthmus/sign"
)

func TestExamples(t *testing.T) {
	a, b := small(1), small(2)
	b.Peers[0].User = "bob"
	s, err := netmap.Encode(a)
	if x, no := netmap.Decode(s); err != api.OK || no != api.OK || !alike(x, a) || len(x.Peers) != 2 {
		t.Errorf("Decode of Encode: %v, %v, %v", x, err, no)
	}
	d := isDiff(t, a, b, api.OK)
	if want := (api.Delta{Base: 1, Version: 2, Set: b.Peers[:1], Hash: netmap.Hash(b)}); !alike(d, want) {
		t.Errorf("Diff: %v", d)
	}
	secret := key(1)
	public, _ := sign.Public(secret)
	h, err := netmap.New(public)
	if err != api.OK {
		t.Fatal(err)
	}
	two, _ := netmap.Encode(b)
	full, err := netmap.Sign(secret, 0, 2, two)
	if err != api.OK {
		t.Fatal(err)
	}
	if err := h.Full(2, two[:9]+"x"+two[10:], full); err != api.ErrSign {
		t.Errorf("a byte changed: %v", err)
	}
	if err := h.Full(2, two, full); err != api.OK {
		t.Errorf("Full: %v", err)
	}
	if err := h.Full(2, two, full); err != api.ErrStale {
		t.Errorf("Full once more: %v", err)
	}
	for version, want := range map[uint64]api.Errno{2: api.ErrStale, 3: api.ErrGap} {
		sig, _ := netmap.Sign(secret, 1, version, "")
		if err := h.Delta(1, version, "", sig); err != want {
			t.Errorf("Delta on 1 to %d: %v", version, err)
		}
	}
	if api.ErrMap != 220 || api.ErrSign != 221 || api.ErrStale != 222 || api.ErrGap != 223 || api.ErrHash != 224 || api.MaxBytes != 32768 ||
		api.MaxPeers != 64 || api.MaxRelays != 8 || api.MaxTags != 8 || api.MaxAddrs != 4 || api.MaxEnds != 8 {
		t.Error("limits")
	}
}

// odd are maps that may not be, and lists that are empty, beside some that may.
func odd() []api.Map {
	twice := town()
	twice.Peers = append(twice.Peers, twice.Peers...)
	slices.Reverse(twice.Relays)
	return []api.Map{
		{}, {Peers: []api.Peer{}, Relays: []api.RelayInfo{}}, {Peers: []api.Peer{{}}}, {Peers: []api.Peer{{}, {Tags: []string{""}, Addrs: []api.Addr{{Hi: 1}}}}},
		town(), small(1), small(2), twice, {Policy: "x", Relays: []api.RelayInfo{{}, {}}}, {Version: 1, Peers: plains(0, 300), Policy: strings.Repeat("x", 1<<17)},
	}
}

// TestCopy: P22.2 and R5, the same, also of maps that may not be, with lists of its own.
func TestCopy(t *testing.T) {
	for _, m := range odd() {
		was := deep(m)
		c := netmap.Copy(m)
		apart(t, c, m)
		if !alike(c, was) || !alike(m, was) {
			t.Errorf("Copy(%v): %v", m, c)
		}
		spots(reflect.ValueOf(&c).Elem(), "", func(_ string, v reflect.Value) {
			if v.Kind() != reflect.Slice {
				v.SetZero()
			}
		})
		if !alike(m, was) {
			t.Errorf("%v became %v", was, m)
		}
	}
}

// isSame: P22.2, either way round.
func isSame(t *testing.T, a, b api.Map, want bool, name string) {
	t.Helper()
	if netmap.Same(a, b) != want || netmap.Same(b, a) != want {
		t.Fatalf("Same of %v and %v (%s) is not %v", a, b, name, want)
	}
}

// TestSame: P22.2, of maps of which anything is another one, each of all there is.
func TestSame(t *testing.T) {
	all := odd()
	for i, a := range all {
		isSame(t, a, deep(a), true, "")
		for _, b := range all[:i] {
			isSame(t, a, b, alike(a, b), "")
		}
	}
	m := town()
	names, others := changes(m)
	for i, x := range others {
		isSame(t, m, x, false, names[i])
		isSame(t, x, deep(x), true, names[i])
	}
	for _, turned := range []func(m *api.Map){
		func(m *api.Map) { slices.Reverse(m.Peers) },
		func(m *api.Map) { slices.Reverse(m.Relays) },
		func(m *api.Map) { slices.Reverse(m.Peers[0].Tags) },
		func(m *api.Map) { slices.Reverse(m.Peers[0].Addrs) },
		func(m *api.Map) { slices.Reverse(m.Peers[0].Ends) },
		func(m *api.Map) { m.Peers[1].Key, m.Peers[1].Disco = m.Peers[1].Disco, m.Peers[1].Key },
		func(m *api.Map) { m.Peers[0].Ends = append(m.Peers[0].Ends, m.Peers[0].Ends...) },
	} {
		x := town()
		turned(&x)
		isSame(t, m, x, false, "turned")
	}
	if reflect.TypeFor[api.Peer]().NumField() != 8 || reflect.TypeFor[api.Map]().NumField() != 4 {
		t.Error("there is more than what this knows of")
	}
}

// TestNoElements: R4, lists that are nil and those without elements are the same.
func TestNoElements(t *testing.T) {
	a := api.Map{Version: 1, Peers: []api.Peer{plain(1)}}
	b := deep(a)
	b.Relays = []api.RelayInfo{}
	b.Peers[0].Tags = []string{}
	b.Peers[0].Ends = []api.Endpoint{}
	isSame(t, a, b, true, "no elements")
	isSame(t, api.Map{}, api.Map{Peers: []api.Peer{}}, true, "no peers")
	b.Version = 2
	d := isDiff(t, a, b, api.OK)
	if len(d.Set) != 0 || d.HasRelays || d.HasPolicy {
		t.Errorf("something new: %v", d)
	}
	d.Set, d.Gone, d.Relays = []api.Peer{}, []string{}, []api.RelayInfo{}
	isApply(t, a, d, api.OK)
	isDelta(t, d, api.OK)
	isMap(t, b, api.OK)
}

// isFound: P22.2, Find and ByKey of a map.
func isFound(t *testing.T, m api.Map, a api.Addr, key string) {
	t.Helper()
	was := deep(m)
	var byAddr, byKey api.Peer
	var hasAddr, hasKey bool
	for i := len(m.Peers) - 1; i >= 0; i-- {
		for _, x := range m.Peers[i].Addrs {
			if x == a {
				byAddr, hasAddr = m.Peers[i], true
			}
		}
		if m.Peers[i].Key == key {
			byKey, hasKey = m.Peers[i], true
		}
	}
	p, is := netmap.Find(m, a)
	if is != hasAddr || !alike(p, byAddr) {
		t.Fatalf("Find(%v, %v): %v, %v, want %v, %v", m, a, p, is, byAddr, hasAddr)
	}
	apart(t, p, m)
	p, is = netmap.ByKey(m, key)
	if is != hasKey || !alike(p, byKey) {
		t.Fatalf("ByKey(%v, %q): %v, %v, want %v, %v", m, key, p, is, byKey, hasKey)
	}
	apart(t, p, m)
	if !alike(m, was) {
		t.Fatalf("%v became %v", was, m)
	}
}

// TestFind: P22.2, the first of those that have it, also of maps that may not be.
func TestFind(t *testing.T) {
	m := town()
	m.Peers[3].Addrs = append(m.Peers[3].Addrs, m.Peers[0].Addrs...)
	m.Peers[2].Addrs = []api.Addr{six(7, 7), {Hi: 1}, {}, m.Peers[1].Addrs[0]}
	m.Peers = append(m.Peers, m.Peers[1], api.Peer{User: "x"}, api.Peer{Key: key(1), User: "y"}, api.Peer{User: "z"})
	all := append(odd(), m)
	for _, m := range all {
		for _, other := range all {
			for _, p := range other.Peers[:min(len(other.Peers), 9)] {
				for _, a := range p.Addrs {
					isFound(t, m, a, p.Key)
				}
				for _, e := range p.Ends {
					isFound(t, m, e.Addr, p.Disco)
				}
			}
		}
		for _, a := range []api.Addr{{}, {V6: true}, {Hi: 1}, {Hi: 1, V6: true}, {Lo: 1 << 32}, four(1), four(9), six(0, 1), {Lo: six(0, 1).Lo}, six(1, 0), six(7, 8)} {
			for _, k := range []string{"", "x", key(0), key(1), key(2), key(1)[:31], key(1) + "x", strings.ToUpper(key(1)), key(0x1001), strings.Repeat("\xff", 32)} {
				isFound(t, m, a, k)
			}
		}
	}
	if p, is := netmap.Find(town(), six(1, 0)); !is || p.User != "a" {
		t.Errorf("Find: %v, %v", p, is)
	}
	if p, is := netmap.ByKey(town(), key(2)); !is || p.User != "b.c_d-9" {
		t.Errorf("ByKey: %v, %v", p, is)
	}
}
