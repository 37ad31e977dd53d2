package netmap_test

import (
	"slices"
	"strings"
	"testing"

	"isthmus/api"
	"isthmus/netmap"
)

// edit is a peer, a map or a delta with something else in it, and whether it may be then.
type edit[T any] struct {
	name string
	may  bool
	do   func(x *T)
}

func (e edit[T]) errno() api.Errno {
	if e.may {
		return api.OK
	}
	return api.ErrMap
}

func tags(count int) []string {
	var out []string
	for i := range count {
		out = append(out, "t"+string([]byte{byte('0' + i)}))
	}
	return out
}

func ends(count int) []api.Endpoint {
	var out []api.Endpoint
	for i := range count {
		out = append(out, end(four(500), uint16(100-i)))
	}
	return out
}

// addrs rise: some of IPv4 and, behind them, some of V6.
func addrs(fours, sixes int) []api.Addr {
	var out []api.Addr
	for i := range fours {
		out = append(out, four(uint64(1000+i)))
	}
	for i := range sixes {
		out = append(out, six(1000, uint64(i)))
	}
	return out
}

// peerEdits: the words 'a peer may be', each of them at its edges.
func peerEdits() []edit[api.Peer] {
	out := []edit[api.Peer]{
		{"as it is", true, func(p *api.Peer) {}},
		{"any keys", true, func(p *api.Peer) { p.Key, p.Disco = key(1)[:31]+"\xff", strings.Repeat("\x00", 32) }},
		{"disco and key the same", true, func(p *api.Peer) { p.Disco = p.Key }},
		{"no user", false, func(p *api.Peer) { p.User = "" }},
		{"a great user", false, func(p *api.Peer) { p.User = "Ann" }},
		{"a user of a digit", false, func(p *api.Peer) { p.User = "9a" }},
		{"a user of a blank", false, func(p *api.Peer) { p.User = "a b" }},
		{"a user of a line", false, func(p *api.Peer) { p.User = "ann\n" }},
		{"a user of 32", true, func(p *api.Peer) { p.User = strings.Repeat("a", 32) }},
		{"a user of 33", false, func(p *api.Peer) { p.User = strings.Repeat("a", 33) }},
		{"a user of 32,769", false, func(p *api.Peer) { p.User = strings.Repeat("a", 32769) }},
		{"a user of 65,536", false, func(p *api.Peer) { p.User = strings.Repeat("a", 65536) }},
		{"no tags", true, func(p *api.Peer) { p.Tags = []string{} }},
		{"an empty tag", false, func(p *api.Peer) { p.Tags = []string{""} }},
		{"a tag that is no name", false, func(p *api.Peer) { p.Tags = []string{"a", "b", "c:"} }},
		{"a first tag that is no name", false, func(p *api.Peer) { p.Tags = []string{"-a", "b", "c"} }},
		{"a tag of 32", true, func(p *api.Peer) { p.Tags = []string{"a", "b" + strings.Repeat("a", 31)} }},
		{"a tag of 33", false, func(p *api.Peer) { p.Tags = []string{"a", "b" + strings.Repeat("a", 32)} }},
		{"8 tags", true, func(p *api.Peer) { p.Tags = tags(8) }},
		{"9 tags", false, func(p *api.Peer) { p.Tags = tags(9) }},
		{"a tag twice", false, func(p *api.Peer) { p.Tags = []string{"a", "a"} }},
		{"a last tag twice", false, func(p *api.Peer) { p.Tags = []string{"a", "b", "b"} }},
		{"tags that fall", false, func(p *api.Peer) { p.Tags = []string{"b", "a"} }},
		{"last tags that fall", false, func(p *api.Peer) { p.Tags = []string{"a", "c", "b"} }},
		{"tags by bytes", true, func(p *api.Peer) { p.Tags = []string{"a", "a-", "a.", "a0", "a_", "aa", "b"} }},
		{"tags by something else", false, func(p *api.Peer) { p.Tags = []string{"b", "aa"} }},
		{"no addrs", false, func(p *api.Peer) { p.Addrs = []api.Addr{} }},
		{"one of V6", true, func(p *api.Peer) { p.Addrs = addrs(0, 1) }},
		{"4 of IPv4", true, func(p *api.Peer) { p.Addrs = addrs(4, 0) }},
		{"5 of IPv4", false, func(p *api.Peer) { p.Addrs = addrs(5, 0) }},
		{"2 and 2 addrs", true, func(p *api.Peer) { p.Addrs = addrs(2, 2) }},
		{"3 and 2 addrs", false, func(p *api.Peer) { p.Addrs = addrs(3, 2) }},
		{"4 of V6", true, func(p *api.Peer) { p.Addrs = addrs(0, 4) }},
		{"V6 first", false, func(p *api.Peer) { p.Addrs = []api.Addr{six(0, 1), four(1000)} }},
		{"a low V6 first", false, func(p *api.Peer) { p.Addrs = []api.Addr{{V6: true}, four(1000)} }},
		{"a low V6 last", true, func(p *api.Peer) { p.Addrs = []api.Addr{four(1000), {V6: true}} }},
		{"an addr twice", false, func(p *api.Peer) { p.Addrs = []api.Addr{four(1000), four(1000)} }},
		{"an addr of V6 twice", false, func(p *api.Peer) { p.Addrs = []api.Addr{four(1000), six(1000, 1), six(1000, 1)} }},
		{"addrs that fall", false, func(p *api.Peer) { p.Addrs = []api.Addr{four(1001), four(1000)} }},
		{"addrs by Hi", true, func(p *api.Peer) { p.Addrs = []api.Addr{six(1000, 9), six(1001, 2)} }},
		{"addrs by Lo", false, func(p *api.Peer) { p.Addrs = []api.Addr{six(1001, 2), six(1000, 9)} }},
		{"the last addrs", true, func(p *api.Peer) { p.Addrs = []api.Addr{{Lo: 1<<32 - 1}, {V6: true, Hi: 1<<64 - 1, Lo: 1<<64 - 1}} }},
		{"an addr of 33 bits", false, func(p *api.Peer) { p.Addrs = []api.Addr{four(1000), {Lo: 1 << 32}} }},
		{"an addr with Hi", false, func(p *api.Peer) { p.Addrs = []api.Addr{four(1000), {Hi: 1, Lo: 5}} }},
		{"a first addr with Hi", false, func(p *api.Peer) { p.Addrs = []api.Addr{{Hi: 1}, six(1000, 1)} }},
		{"never", true, func(p *api.Peer) { p.Expiry = 0 }},
		{"for ever", true, func(p *api.Peer) { p.Expiry = 1<<64 - 1 }},
		{"8 ends", true, func(p *api.Peer) { p.Ends = ends(8) }},
		{"9 ends", false, func(p *api.Peer) { p.Ends = ends(9) }},
		{"no ends", true, func(p *api.Peer) { p.Ends = []api.Endpoint{} }},
		{"an end twice", false, func(p *api.Peer) { p.Ends = append(ends(3), ends(1)...) }},
		{"the next end twice", false, func(p *api.Peer) { p.Ends = append(ends(1), ends(1)...) }},
		{"ends of one port", true, func(p *api.Peer) { p.Ends = []api.Endpoint{end(four(2), 5), end(four(1), 5), end(six(0, 1), 5)} }},
		{"ends of one number", true, func(p *api.Peer) { p.Ends = []api.Endpoint{end(api.Addr{Lo: 5}, 5), end(api.Addr{V6: true, Lo: 5}, 5)} }},
		{"an end at 33 bits", false, func(p *api.Peer) { p.Ends = append(ends(2), end(api.Addr{Lo: 1 << 32}, 1)) }},
		{"an end with Hi", false, func(p *api.Peer) { p.Ends = []api.Endpoint{end(api.Addr{Hi: 1 << 63, Lo: 1}, 1)} }},
		{"an end at 0", true, func(p *api.Peer) { p.Ends = []api.Endpoint{{}} }},
		{"an end where it is", true, func(p *api.Peer) { p.Ends = []api.Endpoint{end(p.Addrs[0], 1)} }},
	}
	for _, size := range []int{0, 1, 31, 33, 64} {
		out = append(out,
			edit[api.Peer]{"another key", false, func(p *api.Peer) { p.Key = strings.Repeat("k", size) }},
			edit[api.Peer]{"another disco", false, func(p *api.Peer) { p.Disco = strings.Repeat("k", size) }},
		)
	}
	return out
}

// relayEdits: the words 'a relay may be'.
func relayEdits() []edit[api.RelayInfo] {
	out := []edit[api.RelayInfo]{
		{"as it is", true, func(x *api.RelayInfo) {}},
		{"a key that there is", true, func(x *api.RelayInfo) { x.Key = key(1) }},
		{"an end at 0", true, func(x *api.RelayInfo) { x.End = api.Endpoint{} }},
		{"an end of V6", true, func(x *api.RelayInfo) { x.End = end(api.Addr{V6: true, Hi: 1<<64 - 1, Lo: 1<<64 - 1}, 1) }},
		{"the last of IPv4", true, func(x *api.RelayInfo) { x.End = end(api.Addr{Lo: 1<<32 - 1}, 65535) }},
		{"an end at 33 bits", false, func(x *api.RelayInfo) { x.End.Addr = api.Addr{Lo: 1 << 32} }},
		{"an end with Hi", false, func(x *api.RelayInfo) { x.End.Addr = api.Addr{Hi: 1} }},
	}
	for _, size := range []int{0, 1, 31, 33, 64} {
		out = append(out, edit[api.RelayInfo]{"another key", false, func(x *api.RelayInfo) { x.Key = strings.Repeat("k", size) }})
	}
	return out
}

// TestPeers: P22.1, each peer that may be, and that may not, at each place, of a map and
// of a delta.
func TestPeers(t *testing.T) {
	for _, e := range peerEdits() {
		for i := range 3 {
			m := town()
			m.Peers = []api.Peer{plain(1), plain(2), plain(3)}
			e.do(&m.Peers[i])
			want := e.errno()
			if e.name == "any keys" && i < 2 { // they do not rise any more
				want = api.ErrMap
			}
			t.Run(e.name, func(t *testing.T) {
				isMap(t, m, want)
				d := news()
				d.Set = m.Peers
				isDelta(t, d, want)
			})
		}
	}
}

// TestRelays: P22.1, the same of relays.
func TestRelays(t *testing.T) {
	for _, e := range relayEdits() {
		for i := range town().Relays {
			m, d := town(), news()
			e.do(&m.Relays[i])
			e.do(&d.Relays[i])
			t.Run(e.name, func(t *testing.T) {
				isMap(t, m, e.errno())
				isDelta(t, d, e.errno())
			})
		}
	}
}

func relays(count int) []api.RelayInfo {
	var out []api.RelayInfo
	for i := range count {
		out = append(out, api.RelayInfo{ID: uint8(i + 1), Key: key(i), End: end(four(uint64(i)), 1)})
	}
	return out
}

func plains(from, count int) []api.Peer {
	var out []api.Peer
	for n := range count {
		out = append(out, plain(from+n))
	}
	return out
}

// texts: what policy.Parse reads, and what it does not.
func texts() map[string]bool {
	return map[string]bool{
		"": true, "\n": true, "#": true, " \t\n\n# ä\xff\x00": true, "accept any from * to *": true, "accept any from * to *\n": true,
		"accept any from *": false, "x": false, "accept any from tag:x to *": false, "tag x = ann\naccept any from tag:x to *": true,
		"tag x = ann\ntag x = ann": false, "\x00": false,
		"#" + strings.Repeat("x", 8191): true, "#" + strings.Repeat("x", 8192): false, "#" + strings.Repeat("x", 32768): false, "#" + strings.Repeat("x", 65535): false,
	}
}

// mapEdits: the words 'a map may be', beside those of its peers and relays.
func mapEdits() []edit[api.Map] {
	return []edit[api.Map]{
		{"as it is", true, func(m *api.Map) {}},
		{"version 0", false, func(m *api.Map) { m.Version = 0 }},
		{"version 1", true, func(m *api.Map) { m.Version = 1 }},
		{"the last version", true, func(m *api.Map) { m.Version = 1<<64 - 1 }},
		{"no peers", true, func(m *api.Map) { m.Peers = []api.Peer{} }},
		{"64 peers", true, func(m *api.Map) { m.Peers = plains(1, 64) }},
		{"65 peers", false, func(m *api.Map) { m.Peers = plains(1, 65) }},
		{"100 peers", false, func(m *api.Map) { m.Peers = plains(1, 100) }},
		{"peers that fall", false, func(m *api.Map) { slices.Reverse(m.Peers) }},
		{"two that fall", false, func(m *api.Map) { m.Peers[1], m.Peers[2] = m.Peers[2], m.Peers[1] }},
		{"a key twice", false, func(m *api.Map) { m.Peers[2].Key = m.Peers[1].Key }},
		{"a peer twice", false, func(m *api.Map) { m.Peers = append(m.Peers, m.Peers[3]) }},
		{"a disco twice", true, func(m *api.Map) { m.Peers[2].Disco = m.Peers[1].Disco }},
		{"an addr twice", false, func(m *api.Map) { m.Peers[2].Addrs = m.Peers[1].Addrs }},
		{"an addr twice, of many", false, func(m *api.Map) { m.Peers[2].Addrs = []api.Addr{four(2), six(0, 1)} }},
		{"an addr twice, far off", false, func(m *api.Map) { m.Peers[3].Addrs[1] = m.Peers[0].Addrs[1] }},
		{"addrs of one number", true, func(m *api.Map) { m.Peers[2].Addrs = []api.Addr{{V6: true, Lo: m.Peers[1].Addrs[0].Lo}} }},
		{"ends twice", true, func(m *api.Map) { m.Peers[2].Ends = m.Peers[0].Ends }},
		{"ends that are addrs", true, func(m *api.Map) { m.Peers[2].Ends = []api.Endpoint{end(m.Peers[0].Addrs[0], 1)} }},
		{"no relays", false, func(m *api.Map) { m.Relays = nil }},
		{"no relays, nor asked for", true, func(m *api.Map) { m.Relays, m.Peers[0].Relay, m.Peers[2].Relay = nil, 0, 0 }},
		{"8 relays", false, func(m *api.Map) { m.Relays = relays(8) }},
		{"8 relays, and theirs", true, func(m *api.Map) { m.Relays, m.Peers[0].Relay = relays(8), 8 }},
		{"9 relays", false, func(m *api.Map) { m.Relays = relays(9) }},
		{"relays that fall", false, func(m *api.Map) { slices.Reverse(m.Relays) }},
		{"a relay twice", false, func(m *api.Map) { m.Relays = append(m.Relays, m.Relays[3]) }},
		{"an ID twice", false, func(m *api.Map) { m.Relays[1].ID = 0 }},
		{"a relay of 0 is gone", true, func(m *api.Map) { m.Relays = m.Relays[1:] }},
		{"another relay is gone", false, func(m *api.Map) { m.Relays = slices.Delete(m.Relays, 1, 2) }},
		{"one that nobody has is gone", true, func(m *api.Map) { m.Relays = m.Relays[:3] }},
		{"a relay that there is not", false, func(m *api.Map) { m.Peers[3].Relay = 2 }},
		{"a relay at 255", true, func(m *api.Map) { m.Peers[3].Relay = 255 }},
		{"none at all", true, func(m *api.Map) { *m = api.Map{Version: 1} }},
	}
}

// TestMaps: P22.1 and P22.2, maps that may be, and that may not.
func TestMaps(t *testing.T) {
	isMap(t, api.Map{}, api.ErrMap)
	for _, e := range mapEdits() {
		m := town()
		e.do(&m)
		t.Run(e.name, func(t *testing.T) { isMap(t, m, e.errno()) })
	}
	for text, may := range texts() {
		m := town()
		m.Policy = text
		isMap(t, m, edit[api.Map]{may: may}.errno())
	}
}

// deltaEdits: the words 'a delta may be', beside those of its peers and relays.
func deltaEdits() []edit[api.Delta] {
	return []edit[api.Delta]{
		{"as it is", true, func(d *api.Delta) {}},
		{"base 0", false, func(d *api.Delta) { d.Base = 0 }},
		{"base 0, version 1", false, func(d *api.Delta) { d.Base, d.Version = 0, 1 }},
		{"base 1, version 2", true, func(d *api.Delta) { d.Base, d.Version = 1, 2 }},
		{"base 1, version 1", false, func(d *api.Delta) { d.Base, d.Version = 1, 1 }},
		{"base 2, version 1", false, func(d *api.Delta) { d.Base, d.Version = 2, 1 }},
		{"no version", false, func(d *api.Delta) { d.Version = 0 }},
		{"the last version", true, func(d *api.Delta) { d.Base, d.Version = 1, 1<<64-1 }},
		{"the last two", true, func(d *api.Delta) { d.Base, d.Version = 1<<64-2, 1<<64-1 }},
		{"behind the last one", false, func(d *api.Delta) { d.Base, d.Version = 1<<64-1, 0 }},
		{"no peers", true, func(d *api.Delta) { d.Set = nil }},
		{"64 peers", true, func(d *api.Delta) { d.Set, d.Gone = plains(1, 64), nil }},
		{"65 peers", false, func(d *api.Delta) { d.Set, d.Gone = plains(1, 65), nil }},
		{"peers that fall", false, func(d *api.Delta) { slices.Reverse(d.Set) }},
		{"a key twice", false, func(d *api.Delta) { d.Set[2].Key = d.Set[1].Key }},
		{"a peer twice", false, func(d *api.Delta) { d.Set = append(d.Set[:3:3], d.Set[2]) }},
		{"an addr twice", true, func(d *api.Delta) { d.Set[2].Addrs = d.Set[1].Addrs }},
		{"a relay that it does not tell", true, func(d *api.Delta) { d.Set[2].Relay = 77 }},
		{"nobody gone", true, func(d *api.Delta) { d.Gone = []string{} }},
		{"64 gone", true, func(d *api.Delta) { d.Gone = keys(100, 64) }},
		{"65 gone", false, func(d *api.Delta) { d.Gone = keys(100, 65) }},
		{"gone that fall", false, func(d *api.Delta) { slices.Reverse(d.Gone) }},
		{"gone twice", false, func(d *api.Delta) { d.Gone = []string{key(3), key(3)} }},
		{"set, and gone", false, func(d *api.Delta) { d.Gone = []string{key(1), key(7)} }},
		{"set, and gone last", false, func(d *api.Delta) { d.Gone = []string{key(0), key(2)} }},
		{"set last, and gone first", false, func(d *api.Delta) { d.Gone = []string{key(2), key(3)} }},
		{"gone disco", true, func(d *api.Delta) { d.Gone = []string{d.Set[1].Disco} }},
		{"a gone key of 31", false, func(d *api.Delta) { d.Gone = []string{key(3)[:31]} }},
		{"a gone key of 33", false, func(d *api.Delta) { d.Gone = []string{key(3), key(4) + "x"} }},
		{"a gone key of none", false, func(d *api.Delta) { d.Gone = []string{"", key(4)} }},
		{"relays of none", false, func(d *api.Delta) { d.HasRelays = false }},
		{"no relays of none", true, func(d *api.Delta) { d.HasRelays, d.Relays = false, []api.RelayInfo{} }},
		{"no relays", true, func(d *api.Delta) { d.Relays = nil }},
		{"one relay of none", false, func(d *api.Delta) { d.HasRelays, d.Relays = false, d.Relays[:1] }},
		{"8 relays", true, func(d *api.Delta) { d.Relays = relays(8) }},
		{"9 relays", false, func(d *api.Delta) { d.Relays = relays(9) }},
		{"relays that fall", false, func(d *api.Delta) { slices.Reverse(d.Relays) }},
		{"an ID twice", false, func(d *api.Delta) { d.Relays[1].ID = 0 }},
		{"a policy of none", false, func(d *api.Delta) { d.HasPolicy = false }},
		{"no policy of none", true, func(d *api.Delta) { d.HasPolicy, d.Policy = false, "" }},
		{"no policy", true, func(d *api.Delta) { d.Policy = "" }},
		{"a blank of none", false, func(d *api.Delta) { d.HasPolicy, d.Policy = false, " " }},
		{"neither", true, func(d *api.Delta) { *d = api.Delta{Base: 1, Version: 2, Hash: key(0)} }},
		{"no hash", false, func(d *api.Delta) { d.Hash = "" }},
		{"a hash of 31", false, func(d *api.Delta) { d.Hash = d.Hash[1:] }},
		{"a hash of 33", false, func(d *api.Delta) { d.Hash += "x" }},
		{"a hash of noughts", true, func(d *api.Delta) { d.Hash = strings.Repeat("\x00", 32) }},
	}
}

func keys(from, count int) []string {
	var out []string
	for n := range count {
		out = append(out, key(from+n))
	}
	return out
}

// TestDeltas: P22.1, deltas that may be, and that may not.
func TestDeltas(t *testing.T) {
	isDelta(t, api.Delta{}, api.ErrMap)
	for _, e := range deltaEdits() {
		d := news()
		e.do(&d)
		t.Run(e.name, func(t *testing.T) { isDelta(t, d, e.errno()) })
	}
	for text, may := range texts() {
		d := news()
		d.Policy = text
		isDelta(t, d, edit[api.Delta]{may: may}.errno())
	}
}

// TestSize: P22.1, maps and deltas of as many bytes as there may be, one less and one
// more; ErrMap comes ahead of ErrLong; bytes beyond are those of none.
func TestSize(t *testing.T) {
	for count := 56; count <= 64; count++ {
		m := crowd(5, count)
		for _, size := range []int{32700, 32767, 32768, 32769, 33000} {
			if room := size - len(wantBytes(m)); room < 2 || room > 8192 {
				continue
			}
			m := filled(m, size)
			want := api.OK
			if size > 32768 {
				want = api.ErrLong
			}
			isMap(t, m, want)
			m.Version = 0
			isMap(t, m, api.ErrMap)
		}
	}
	d := news()
	d.Set, d.Gone, d.Policy = crowd(5, 64).Peers, keys(100, 64), "#"
	for _, size := range []int{32767, 32768, 32769, 33000} {
		x := d
		x.Policy += strings.Repeat("x", size-len(wantDeltaBytes(d)))
		want := api.OK
		if size > 32768 {
			want = api.ErrLong
		}
		isDelta(t, x, want)
		x.Hash = ""
		isDelta(t, x, api.ErrMap)
	}
	isMap(t, crowd(5, 64), api.OK)
	if netmap.May(api.Map{Peers: make([]api.Peer, 1<<16)}) != api.ErrMap {
		t.Error("65,536 peers")
	}
}
