package netmap_test

import (
	"bytes"
	"crypto/ed25519"
	"encoding/binary"
	"maps"
	"regexp"
	"slices"
	"strings"
	"testing"

	"isthmus/api"
	"isthmus/blake"
	"isthmus/netmap"
	"isthmus/policy"
)

// The chapter, once more, by other means: what may be is asked pair by pair, bytes go
// through a buffer, and are read by a cursor that panics; deltas are made by maps of keys.

var label = regexp.MustCompile(`^[a-z][a-z0-9._-]{0,31}$`)

func mayAddr(a api.Addr) bool { return a.V6 || a.Hi == 0 && a.Lo>>32 == 0 }

// lessAddr: layer 13's Less.
func lessAddr(a, b api.Addr) bool {
	if a.V6 != b.V6 {
		return b.V6
	}
	return a.Hi < b.Hi || a.Hi == b.Hi && a.Lo < b.Lo
}

// pairs tells whether all pairs of n, the first ahead of the second, are right.
func pairs(n int, right func(i, j int) bool) bool {
	for j := range n {
		for i := range j {
			if !right(i, j) {
				return false
			}
		}
	}
	return true
}

// each tells whether l has from least to most elements, all of which are right.
func each[T any](l []T, least, most int, right func(T) bool) bool {
	wrong := func(x T) bool { return !right(x) }
	return len(l) >= least && len(l) <= most && !slices.ContainsFunc(l, wrong)
}

func thirtyTwo(s string) bool { return len(s) == 32 }

func mayEnd(e api.Endpoint) bool { return mayAddr(e.Addr) }

func wantMayPeer(p api.Peer) bool {
	return len(p.Key) == 32 && len(p.Disco) == 32 && label.MatchString(p.User) &&
		each(p.Tags, 0, 8, label.MatchString) &&
		pairs(len(p.Tags), func(i, j int) bool { return strings.Compare(p.Tags[i], p.Tags[j]) < 0 }) &&
		each(p.Addrs, 1, 4, mayAddr) &&
		pairs(len(p.Addrs), func(i, j int) bool { return lessAddr(p.Addrs[i], p.Addrs[j]) }) &&
		each(p.Ends, 0, 8, mayEnd) &&
		pairs(len(p.Ends), func(i, j int) bool { return p.Ends[i] != p.Ends[j] })
}

func wantMayPeers(l []api.Peer) bool {
	return each(l, 0, 64, wantMayPeer) && pairs(len(l), func(i, j int) bool { return l[i].Key < l[j].Key })
}

func wantMayRelays(l []api.RelayInfo) bool {
	may := func(x api.RelayInfo) bool { return len(x.Key) == 32 && mayEnd(x.End) }
	return each(l, 0, 8, may) && pairs(len(l), func(i, j int) bool { return l[i].ID < l[j].ID })
}

func wantMayPolicy(s string) bool {
	_, f := policy.Parse(s)
	return f == api.Fault{}
}

func wantMayMap(m api.Map) bool {
	apart := func(i, j int) bool {
		has := func(a api.Addr) bool { return slices.Contains(m.Peers[j].Addrs, a) }
		return !slices.ContainsFunc(m.Peers[i].Addrs, has)
	}
	ids := map[uint8]bool{0: true}
	for _, x := range m.Relays {
		ids[x.ID] = true
	}
	return m.Version > 0 && wantMayPeers(m.Peers) && pairs(len(m.Peers), apart) && wantMayRelays(m.Relays) &&
		each(m.Peers, 0, 64, func(p api.Peer) bool { return ids[p.Relay] }) && wantMayPolicy(m.Policy)
}

func wantMayDelta(d api.Delta) bool {
	set := map[string]bool{}
	for _, p := range d.Set {
		set[p.Key] = true
	}
	return d.Base > 0 && d.Base < d.Version && wantMayPeers(d.Set) &&
		each(d.Gone, 0, 64, thirtyTwo) && pairs(len(d.Gone), func(i, j int) bool { return d.Gone[i] < d.Gone[j] }) &&
		each(d.Gone, 0, 64, func(key string) bool { return !set[key] }) &&
		(d.HasRelays || len(d.Relays) == 0) && wantMayRelays(d.Relays) &&
		(d.HasPolicy || d.Policy == "") && wantMayPolicy(d.Policy) && len(d.Hash) == 32
}

// wantMay: the error of what may be, or may not, and has these bytes.
func wantMay(may bool, bytes string) api.Errno {
	switch {
	case !may:
		return api.ErrMap
	case len(bytes) > 32768:
		return api.ErrLong
	}
	return api.OK
}

// pen writes bytes.
type pen struct{ bytes.Buffer }

func (p *pen) number(size int, x uint64) {
	p.Write(binary.BigEndian.AppendUint64(nil, x)[8-size:])
}

func (p *pen) text(s string) {
	p.number(2, uint64(len(s)))
	p.WriteString(s)
}

func (p *pen) addr(a api.Addr) {
	if a.V6 {
		p.number(1, 6)
		p.number(8, a.Hi)
		p.number(8, a.Lo)
	} else {
		p.number(1, 4)
		p.number(4, a.Lo)
	}
}

func (p *pen) end(e api.Endpoint) {
	p.addr(e.Addr)
	p.number(2, uint64(e.Port))
}

func (p *pen) peers(l []api.Peer) {
	p.number(2, uint64(len(l)))
	for _, x := range l {
		p.WriteString(x.Key)
		p.WriteString(x.Disco)
		p.text(x.User)
		p.number(2, uint64(len(x.Tags)))
		for _, s := range x.Tags {
			p.text(s)
		}
		p.number(2, uint64(len(x.Addrs)))
		for _, a := range x.Addrs {
			p.addr(a)
		}
		p.number(8, x.Expiry)
		p.number(1, uint64(x.Relay))
		p.number(2, uint64(len(x.Ends)))
		for _, e := range x.Ends {
			p.end(e)
		}
	}
}

func (p *pen) relays(l []api.RelayInfo) {
	p.number(2, uint64(len(l)))
	for _, x := range l {
		p.number(1, uint64(x.ID))
		p.WriteString(x.Key)
		p.end(x.End)
	}
}

func wantBytes(m api.Map) string {
	var p pen
	p.number(8, m.Version)
	p.peers(m.Peers)
	p.relays(m.Relays)
	p.text(m.Policy)
	return p.String()
}

func wantDeltaBytes(d api.Delta) string {
	var p pen
	p.number(8, d.Base)
	p.number(8, d.Version)
	p.peers(d.Set)
	p.number(2, uint64(len(d.Gone)))
	for _, key := range d.Gone {
		p.WriteString(key)
	}
	if d.HasRelays {
		p.number(1, 1)
		p.relays(d.Relays)
	} else {
		p.number(1, 0)
	}
	if d.HasPolicy {
		p.number(1, 1)
		p.text(d.Policy)
	} else {
		p.number(1, 0)
	}
	p.WriteString(d.Hash)
	return p.String()
}

// cursor reads bytes; it panics with noForm where they are not of their form.
type cursor string

type noForm struct{}

func (c *cursor) take(n int) string {
	if n > len(*c) {
		panic(noForm{})
	}
	s := (*c)[:n]
	*c = (*c)[n:]
	return string(s)
}

func (c *cursor) number(size int) uint64 {
	return binary.BigEndian.Uint64(append(make([]byte, 8-size), c.take(size)...))
}

func (c *cursor) text() string { return c.take(int(c.number(2))) }

func (c *cursor) choice(no, yes uint64) bool {
	x := c.number(1)
	if x != no && x != yes {
		panic(noForm{})
	}
	return x == yes
}

func (c *cursor) addr() api.Addr {
	if c.choice(4, 6) {
		hi := c.number(8)
		return api.Addr{V6: true, Hi: hi, Lo: c.number(8)}
	}
	return api.Addr{Lo: c.number(4)}
}

func (c *cursor) end() api.Endpoint {
	a := c.addr()
	return api.Endpoint{Addr: a, Port: uint16(c.number(2))}
}

func (c *cursor) peers() []api.Peer {
	var l []api.Peer
	for range c.number(2) {
		var p api.Peer
		p.Key, p.Disco, p.User = c.take(32), c.take(32), c.text()
		for range c.number(2) {
			p.Tags = append(p.Tags, c.text())
		}
		for range c.number(2) {
			p.Addrs = append(p.Addrs, c.addr())
		}
		p.Expiry, p.Relay = c.number(8), uint8(c.number(1))
		for range c.number(2) {
			p.Ends = append(p.Ends, c.end())
		}
		l = append(l, p)
	}
	return l
}

func (c *cursor) relays() []api.RelayInfo {
	var l []api.RelayInfo
	for range c.number(2) {
		id := uint8(c.number(1))
		k := c.take(32)
		l = append(l, api.RelayInfo{ID: id, Key: k, End: c.end()})
	}
	return l
}

func (c *cursor) all() (m api.Map) {
	m.Version, m.Peers, m.Relays, m.Policy = c.number(8), c.peers(), c.relays(), c.text()
	return m
}

func (c *cursor) delta() (d api.Delta) {
	d.Base, d.Version, d.Set = c.number(8), c.number(8), c.peers()
	for range c.number(2) {
		d.Gone = append(d.Gone, c.take(32))
	}
	if d.HasRelays = c.choice(0, 1); d.HasRelays {
		d.Relays = c.relays()
	}
	if d.HasPolicy = c.choice(0, 1); d.HasPolicy {
		d.Policy = c.text()
	}
	d.Hash = c.take(32)
	return d
}

// wantRead is what read reads of s, if that may be.
func wantRead[T any](s string, read func(*cursor) T, may func(T) bool) (x T, err api.Errno) {
	defer func() {
		switch recover().(type) {
		case nil:
		case noForm:
			var none T
			x, err = none, api.ErrForm
		default:
			panic("a fault of the test")
		}
	}()
	c := cursor(s)
	x = read(&c)
	if len(s) > 32768 || c != "" {
		panic(noForm{})
	}
	if !may(x) {
		var none T
		return none, api.ErrMap
	}
	return x, api.OK
}

func wantDecode(s string) (api.Map, api.Errno) { return wantRead(s, (*cursor).all, wantMayMap) }

func wantDecodeDelta(s string) (api.Delta, api.Errno) {
	return wantRead(s, (*cursor).delta, wantMayDelta)
}

func byKey(l []api.Peer) map[string]api.Peer {
	out := map[string]api.Peer{}
	for _, p := range l {
		out[p.Key] = p
	}
	return out
}

func wantDiff(a, b api.Map) (api.Delta, api.Errno) {
	for _, m := range []api.Map{a, b} {
		if err := wantMay(wantMayMap(m), wantBytes(m)); err != api.OK {
			return api.Delta{}, err
		}
	}
	if b.Version <= a.Version {
		return api.Delta{}, api.ErrArg
	}
	d := api.Delta{Base: a.Version, Version: b.Version, Hash: blake.Of(wantBytes(b))}
	old, next := byKey(a.Peers), byKey(b.Peers)
	for _, key := range slices.Sorted(maps.Keys(next)) {
		if p, is := old[key]; !is || !alike(p, next[key]) {
			d.Set = append(d.Set, next[key])
		}
	}
	for _, key := range slices.Sorted(maps.Keys(old)) {
		if _, is := next[key]; !is {
			d.Gone = append(d.Gone, key)
		}
	}
	if !alike(a.Relays, b.Relays) {
		d.HasRelays, d.Relays = true, b.Relays
	}
	if !alike(a.Policy, b.Policy) {
		d.HasPolicy, d.Policy = true, b.Policy
	}
	return d, api.OK
}

func wantApply(m api.Map, d api.Delta) (api.Map, api.Errno) {
	if err := wantMay(wantMayMap(m), wantBytes(m)); err != api.OK {
		return api.Map{}, err
	}
	if !wantMayDelta(d) {
		return api.Map{}, api.ErrMap
	}
	if m.Version != d.Base {
		return api.Map{}, api.ErrGap
	}
	peers := byKey(m.Peers)
	for _, key := range d.Gone {
		if _, is := peers[key]; !is {
			return api.Map{}, api.ErrMap
		}
		delete(peers, key)
	}
	maps.Copy(peers, byKey(d.Set))
	m.Version, m.Peers = d.Version, nil
	for _, key := range slices.Sorted(maps.Keys(peers)) {
		m.Peers = append(m.Peers, peers[key])
	}
	if d.HasRelays {
		m.Relays = d.Relays
	}
	if d.HasPolicy {
		m.Policy = d.Policy
	}
	if err := wantMay(wantMayMap(m), wantBytes(m)); err != api.OK {
		return api.Map{}, err
	}
	if blake.Of(wantBytes(m)) != d.Hash {
		return api.Map{}, api.ErrHash
	}
	return m, api.OK
}

// wantSigned: what is signed.
func wantSigned(base, version uint64, data string) []byte {
	var p pen
	p.WriteString("isthmus netmap")
	p.number(8, base)
	p.number(8, version)
	p.WriteString(data)
	return p.Bytes()
}

// model is a holder as the chapter writes it, once more.
type model struct {
	public string
	maps   []api.Map // all that it took, the newest last
	wants  bool
}

func (m *model) version() uint64 { return m.newest().Version }

func (m *model) newest() api.Map {
	if len(m.maps) == 0 {
		return api.Map{}
	}
	return m.maps[len(m.maps)-1]
}

func (m *model) full(version uint64, data, sig string) api.Errno {
	m.wants = true
	if !ed25519.Verify([]byte(m.public), wantSigned(0, version, data), []byte(sig)) {
		return api.ErrSign
	}
	if version <= m.version() {
		return api.ErrStale
	}
	x, err := wantDecode(data)
	if err != api.OK {
		return err
	}
	if x.Version != version {
		return api.ErrForm
	}
	m.maps, m.wants = append(m.maps, x), false
	return api.OK
}

func (m *model) delta(base, version uint64, data, sig string) api.Errno {
	m.wants = true
	if !ed25519.Verify([]byte(m.public), wantSigned(base, version, data), []byte(sig)) {
		return api.ErrSign
	}
	if version <= m.version() {
		return api.ErrStale
	}
	if len(m.maps) == 0 || base != m.version() {
		return api.ErrGap
	}
	d, err := wantDecodeDelta(data)
	if err != api.OK {
		return err
	}
	if d.Base != base || d.Version != version {
		return api.ErrForm
	}
	x, err := wantApply(m.newest(), d)
	if err != api.OK {
		return err
	}
	m.maps, m.wants = append(m.maps, x), false
	return api.OK
}

// isMap: P22.1, P22.2 and P22.6 of a map, whether it may be or not.
func isMap(t *testing.T, m api.Map, want api.Errno) {
	t.Helper()
	bytes := wantBytes(m)
	if may := wantMay(wantMayMap(m), bytes); may != want {
		t.Fatalf("a fault of the test: %v is told, %v wanted, of %v", may, want, m)
	}
	isWritten(t, m, netmap.Encode, netmap.Decode, bytes, want)
	if err := netmap.May(m); err != want {
		t.Fatalf("May(%v): %v, want %v", m, err, want)
	}
	digest := blake.Of(bytes)
	if want != api.OK {
		digest = ""
	}
	if s := netmap.Hash(m); s != digest {
		t.Fatalf("Hash(%v): %x, want %x", m, s, digest)
	}
}

// isDelta: P22.1 and P22.6 of a delta, whether it may be or not.
func isDelta(t *testing.T, d api.Delta, want api.Errno) {
	t.Helper()
	bytes := wantDeltaBytes(d)
	if may := wantMay(wantMayDelta(d), bytes); may != want {
		t.Fatalf("a fault of the test: %v is told, %v wanted, of %v", may, want, d)
	}
	isWritten(t, d, netmap.EncodeDelta, netmap.DecodeDelta, bytes, want)
}

// isWritten: x has these bytes, and is read of them again; or there is an error.
func isWritten[T any](t *testing.T, x T, write func(T) (string, api.Errno), read func(string) (T, api.Errno), bytes string, want api.Errno) {
	t.Helper()
	was := deep(x)
	isDecoded(t, bytes)
	if want != api.OK {
		bytes = ""
	}
	if s, err := write(x); s != bytes || err != want {
		t.Fatalf("%v is written as %x, %v, want %x, %v", x, s, err, bytes, want)
	}
	if !alike(x, was) {
		t.Fatalf("%v became %v", was, x)
	}
	if back, err := read(bytes); want == api.OK && (err != api.OK || !alike(back, x)) {
		t.Fatalf("%v is read as %v, %v", x, back, err)
	}
}

// isDecoded: P22.1 and P22.6 of bytes, as a map's and as a delta's.
func isDecoded(t *testing.T, s string) {
	t.Helper()
	isRead(t, s, netmap.Decode, wantDecode, netmap.Encode)
	isRead(t, s, netmap.DecodeDelta, wantDecodeDelta, netmap.EncodeDelta)
}

// isRead: s is read as the model reads it, and what it says has these bytes.
func isRead[T any](t *testing.T, s string, read, model func(string) (T, api.Errno), write func(T) (string, api.Errno)) {
	t.Helper()
	x, err := read(s)
	if y, want := model(s); err != want || !alike(x, y) {
		t.Fatalf("%x is read as %v, %v, want %v, %v", s, x, err, y, want)
	}
	apart(t, x)
	if back, no := write(x); err == api.OK && (back != s || no != api.OK) {
		t.Fatalf("%x is read, and written as %x, %v", s, back, no)
	}
}

// isDiff: P22.3 and P22.6, what is new, and what it makes of a.
func isDiff(t *testing.T, a, b api.Map, want api.Errno) api.Delta {
	t.Helper()
	d := isMade(t, a, b, netmap.Diff, wantDiff, want)
	if want == api.OK {
		if m := isApply(t, a, d, api.OK); !alike(m, b) {
			t.Fatalf("Apply of Diff(%v, %v): %v", a, b, m)
		}
	}
	return d
}

// isApply: P22.3, what a delta makes of a map.
func isApply(t *testing.T, m api.Map, d api.Delta, want api.Errno) api.Map {
	t.Helper()
	return isMade(t, m, d, netmap.Apply, wantApply, want)
}

// isMade: of a and b is made what the model makes of them; they stay as they were, and
// what is made has lists of its own.
func isMade[A, B, C any](t *testing.T, a A, b B, call, model func(A, B) (C, api.Errno), want api.Errno) C {
	t.Helper()
	wasA, wasB := deep(a), deep(b)
	got, err := call(a, b)
	x, told := model(a, b)
	if told != want {
		t.Fatalf("a fault of the test: %v is told, %v wanted, of %v and %v", told, want, a, b)
	}
	if err != want || !alike(got, x) {
		t.Fatalf("%v and %v make %v, %v, want %v, %v", a, b, got, err, x, want)
	}
	if !alike(a, wasA) || !alike(b, wasB) {
		t.Fatalf("one of %v and %v is changed", wasA, wasB)
	}
	apart(t, got, a, b)
	return got
}
