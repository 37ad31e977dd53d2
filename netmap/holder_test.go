package netmap_test

import (
	"crypto/ed25519"
	"fmt"
	"strings"
	"testing"

	"isthmus/api"
	"isthmus/netmap"
	"isthmus/sign"
)

var (
	secret = strings.Repeat("s", 32)
	public = string(ed25519.NewKeyFromSeed([]byte(secret)).Public().(ed25519.PublicKey))
)

// signed is the signature of what is signed, by the library's own call.
func signed(base, version uint64, data string) string {
	return string(ed25519.Sign(ed25519.NewKeyFromSeed([]byte(secret)), wantSigned(base, version, data)))
}

// TestSign: P22.4, what is signed, byte by byte.
func TestSign(t *testing.T) {
	if s := string(wantSigned(1, 0x0203, "ab")); s != "isthmus netmap\x00\x00\x00\x00\x00\x00\x00\x01\x00\x00\x00\x00\x00\x00\x02\x03ab" {
		t.Fatalf("a fault of the test: %q", s)
	}
	if p, err := sign.Public(secret); p != public || err != api.OK {
		t.Fatal("a fault of the test")
	}
	numbers := []uint64{0, 1, 2, 255, 256, 0x0102030405060708, 1 << 63, 1<<64 - 1}
	for _, base := range numbers {
		for _, version := range numbers {
			for _, data := range []string{"", "a", "\x00", strings.Repeat("x", 40000)} {
				sig, err := netmap.Sign(secret, base, version, data)
				if err != api.OK || sig != signed(base, version, data) {
					t.Fatalf("Sign(%d, %d, %d bytes): %x, %v", base, version, len(data), sig, err)
				}
				if !netmap.Verify(public, base, version, data, sig) {
					t.Errorf("Verify(%d, %d, %d bytes)", base, version, len(data))
				}
			}
		}
	}
	for _, size := range []int{0, 1, 31, 33, 64} {
		if sig, err := netmap.Sign(strings.Repeat("s", size), 1, 2, "data"); sig != "" || err != api.ErrArg {
			t.Errorf("a secret of %d bytes: %x, %v", size, sig, err)
		}
	}
}

// TestVerify: P22.4, nothing else is signed by that.
func TestVerify(t *testing.T) {
	sig := signed(7, 8, "data")
	other, _ := sign.Public(key(1))
	type told struct {
		public        string
		base, version uint64
		data, sig     string
	}
	fine := told{public, 7, 8, "data", sig}
	for name, do := range map[string]func(x *told){
		"another key": func(x *told) { x.public = other }, "no key": func(x *told) { x.public = "" }, "a short key": func(x *told) { x.public = public[:31] },
		"a long key": func(x *told) { x.public += "x" }, "the secret": func(x *told) { x.public = secret }, "a small key": func(x *told) { x.public = "\x01" + strings.Repeat("\x00", 31) },
		"another base": func(x *told) { x.base = 6 }, "no base": func(x *told) { x.base = 0 }, "another version": func(x *told) { x.version = 9 },
		"base and version": func(x *told) { x.base, x.version = 8, 7 }, "no version": func(x *told) { x.version = 0 },
		"other data": func(x *told) { x.data = "datb" }, "less data": func(x *told) { x.data = "dat" }, "more data": func(x *told) { x.data += "\x00" }, "no data": func(x *told) { x.data = "" },
		"no signature": func(x *told) { x.sig = "" }, "a short one": func(x *told) { x.sig = sig[:63] }, "a long one": func(x *told) { x.sig += "x" },
		"of the data alone": func(x *told) { x.sig, _ = sign.Sign(secret, "data") },
		"of no name":        func(x *told) { x.sig, _ = sign.Sign(secret, string(wantSigned(7, 8, "data")[len("isthmus netmap"):])) },
	} {
		x := fine
		do(&x)
		if netmap.Verify(x.public, x.base, x.version, x.data, x.sig) {
			t.Error(name)
		}
	}
	for i := range sig {
		for bit := range 8 {
			b := []byte(sig)
			b[i] ^= 1 << bit
			if netmap.Verify(public, 7, 8, "data", string(b)) {
				t.Fatalf("bit %d of byte %d of a signature", bit, i)
			}
		}
	}
	if !netmap.Verify(fine.public, fine.base, fine.version, fine.data, fine.sig) {
		t.Error("as it is")
	}
}

// TestNew: P22.5, a holder of a key of 32 bytes, any ones.
func TestNew(t *testing.T) {
	for _, size := range []int{0, 1, 31, 33, 64} {
		if h, err := netmap.New(strings.Repeat("k", size)); h != nil || err != api.ErrArg {
			t.Errorf("a key of %d bytes: %v, %v", size, h, err)
		}
	}
	for _, k := range []string{public, key(1), strings.Repeat("\x00", 32), strings.Repeat("\xff", 32)} {
		h, err := netmap.New(k)
		if h == nil || err != api.OK {
			t.Fatalf("New(%x): %v, %v", k, h, err)
		}
		if h.Version() != 0 || !h.Wants() || !alike(h.Map(), api.Map{}) {
			t.Errorf("a new one: %d, %v, %v", h.Version(), h.Wants(), h.Map())
		}
	}
}

// TestNoHolder: R3, of a nil one, and of one that New did not make.
func TestNoHolder(t *testing.T) {
	s := wantBytes(small(1))
	for _, h := range []*netmap.Holder{nil, {}} {
		for range 2 {
			if err := h.Full(1, s, signed(0, 1, s)); err != api.ErrNil {
				t.Errorf("Full: %v", err)
			}
			if err := h.Full(1, s, ""); err != api.ErrNil {
				t.Errorf("Full: %v", err)
			}
			if err := h.Delta(0, 1, "", ""); err != api.ErrNil {
				t.Errorf("Delta: %v", err)
			}
			if h.Version() != 0 || h.Wants() || !alike(h.Map(), api.Map{}) {
				t.Errorf("%d, %v, %v", h.Version(), h.Wants(), h.Map())
			}
		}
	}
}

// news that come to a holder: a whole map, or a delta.
type item struct {
	name          string
	delta         bool
	base, version uint64
	data, sig     string
}

func fullOf(name string, version uint64, data string) item {
	return item{name: name, version: version, data: data, sig: signed(0, version, data)}
}

func deltaOf(name string, base, version uint64, data string) item {
	return item{name: name, delta: true, base: base, version: version, data: data, sig: signed(base, version, data)}
}

// pair is a holder and its model, which are told the same.
type pair struct {
	*testing.T
	h    *netmap.Holder
	m    *model
	told []string
}

func newPair(t *testing.T) *pair {
	t.Helper()
	h, err := netmap.New(public)
	if err != api.OK {
		t.Fatal(err)
	}
	p := &pair{T: t, h: h, m: &model{public: public, wants: true}}
	p.whole()
	return p
}

// either is for want where the model alone tells it.
const either api.Errno = -1

func (p *pair) tell(x item, want api.Errno) {
	p.Helper()
	p.told = append(p.told, x.name)
	was := p.h.Version()
	var got, told api.Errno
	if x.delta {
		got, told = p.h.Delta(x.base, x.version, x.data, x.sig), p.m.delta(x.base, x.version, x.data, x.sig)
	} else {
		got, told = p.h.Full(x.version, x.data, x.sig), p.m.full(x.version, x.data, x.sig)
	}
	if got != told {
		p.Fatalf("%s: got %v, want %v", strings.Join(p.told, ", "), got, told)
	}
	if want != either && got != want {
		p.Fatalf("%s: got %v, which is not %v", strings.Join(p.told, ", "), got, want)
	}
	if p.h.Version() < was {
		p.Fatalf("%s: the version fell", strings.Join(p.told, ", "))
	}
	p.whole()
}

// whole holds all that the holder tells of itself against the model.
func (p *pair) whole() {
	p.Helper()
	m := p.h.Map()
	if !alike(m, p.m.newest()) || p.h.Version() != p.m.version() || p.h.Wants() != p.m.wants {
		p.Fatalf("%s: got %d, %v, %v, want %d, %v, %v", strings.Join(p.told, ", "), p.h.Version(), p.h.Wants(), m, p.m.version(), p.m.wants, p.m.newest())
	}
	apart(p.T, m, p.h.Map())
}

// years are maps of the versions 1 to 4, each another one than those ahead of it.
func years() []api.Map {
	a := town()
	a.Version = 1
	b := next(a, func(m *api.Map) { m.Peers[1].User = "bob" })
	c := next(b, func(m *api.Map) { m.Peers, m.Policy = append(m.Peers[:1:1], m.Peers[2:]...), "" })
	d := next(c, func(m *api.Map) {
		m.Relays = append(m.Relays[:1:1], m.Relays[1:3]...)
		m.Peers = append(m.Peers[:1:1], append([]api.Peer{plain(1)}, m.Peers[1:]...)...)
	})
	return []api.Map{a, b, c, d}
}

// deltaBytes are those of what is new from a to b.
func deltaBytes(a, b api.Map) string {
	d, err := wantDiff(a, b)
	if err != api.OK {
		panic(err)
	}
	return wantDeltaBytes(d)
}

// offers are news of all kinds that fit the years, and such as don't.
func offers() []item {
	y := years()
	out := []item{}
	for i, m := range y[:3] {
		out = append(out, fullOf(fmt.Sprintf("full %d", i+1), m.Version, wantBytes(m)))
	}
	for _, c := range [][2]int{{0, 1}, {1, 2}, {0, 2}, {2, 3}} {
		a, b := y[c[0]], y[c[1]]
		out = append(out, deltaOf(fmt.Sprintf("delta %d to %d", a.Version, b.Version), a.Version, b.Version, deltaBytes(a, b)))
	}
	forged := deltaOf("a forged delta 1 to 2", 1, 2, deltaBytes(y[0], y[1]))
	forged.sig = signed(1, 2, "something else")
	wrong, _ := wantDiff(y[1], y[2])
	wrong.Hash = key(1)
	return append(out, forged, fullOf("full 2 that says it is 1", 2, wantBytes(y[0])), deltaOf("delta 2 to 3 with another hash", 2, 3, wantDeltaBytes(wrong)))
}

// TestRows: P22.5, P22.6, all rows of three of these news.
func TestRows(t *testing.T) {
	all := offers()
	for row := range len(all) * len(all) * len(all) {
		p := newPair(t)
		for i := row; len(p.told) < 3; i /= len(all) {
			p.tell(all[i%len(all)], either)
		}
	}
}

// TestFull: P22.5, what is wrong with a whole map, and its order.
func TestFull(t *testing.T) {
	y := years()
	one, two, three := wantBytes(y[0]), wantBytes(y[1]), wantBytes(y[2])
	bad := y[2]
	bad.Policy = "x"
	forged := func(x item) item {
		x.sig = signed(7, x.version, x.data)
		return x
	}
	for _, c := range []struct {
		item
		want api.Errno
	}{
		{fullOf("three", 3, three), api.OK},
		{fullOf("two, once more", 2, two), api.ErrStale},
		{fullOf("one", 1, one), api.ErrStale},
		{fullOf("none", 0, one), api.ErrStale},
		{fullOf("one as three", 3, one), api.ErrForm},
		{fullOf("three as four", 4, three), api.ErrForm},
		{fullOf("two as three", 3, two), api.ErrForm},
		{fullOf("four as three", 3, wantBytes(y[3])), api.ErrForm},
		{fullOf("nothing", 3, ""), api.ErrForm},
		{fullOf("a byte more", 3, three+"x"), api.ErrForm},
		{fullOf("one that may not be", 3, wantBytes(bad)), api.ErrMap},
		{fullOf("one that may not be, as four", 4, wantBytes(bad)), api.ErrMap},
		{fullOf("a long one", 5, wantBytes(long(5))), api.ErrForm},
		{fullOf("nothing, of old", 2, ""), api.ErrStale},
		{fullOf("a delta", 3, deltaBytes(y[1], y[2])), api.ErrForm},
		{forged(fullOf("three, forged", 3, three)), api.ErrSign},
		{forged(fullOf("two, forged", 2, two)), api.ErrSign},
		{forged(fullOf("nothing, forged", 3, "")), api.ErrSign},
		{item{name: "no signature", version: 3, data: three}, api.ErrSign},
		{item{name: "as four", version: 4, data: three, sig: signed(0, 3, three)}, api.ErrSign},
		{item{name: "signed as a delta", version: 3, data: three, sig: signed(2, 3, three)}, api.ErrSign},
	} {
		t.Run(c.name, func(t *testing.T) {
			p := newPair(t)
			p.tell(fullOf("two", 2, two), api.OK)
			for range 2 {
				p.tell(c.item, c.want)
				if c.want == api.OK {
					c.want = api.ErrStale
				}
			}
			p.tell(fullOf("and the last one", 4, wantBytes(y[3])), api.OK)
		})
	}
}

// withoutMap is the error of a delta, told to a holder without a map, whose error is want
// once there is one.
func withoutMap(x item, want api.Errno) api.Errno {
	switch {
	case want == api.ErrSign:
		return api.ErrSign
	case x.version == 0:
		return api.ErrStale
	}
	return api.ErrGap
}

// TestDelta: P22.5, what is wrong with a delta, and its order.
func TestDelta(t *testing.T) {
	y := years()
	fine := deltaBytes(y[1], y[2])
	d, _ := wantDiff(y[1], y[2])
	edited := func(do func(d *api.Delta)) string {
		x := deep(d)
		do(&x)
		return wantDeltaBytes(x)
	}
	forged := func(x item) item {
		x.sig = signed(0, x.version, x.data)
		return x
	}
	bad := edited(func(d *api.Delta) { d.Hash, d.Policy = key(1), "x" })
	for _, c := range []struct {
		item
		want api.Errno
	}{
		{deltaOf("two to three", 2, 3, fine), api.OK},
		{deltaOf("one to three", 1, 3, deltaBytes(y[0], y[2])), api.ErrGap},
		{deltaOf("three to four", 3, 4, deltaBytes(y[2], y[3])), api.ErrGap},
		{deltaOf("one to two", 1, 2, deltaBytes(y[0], y[1])), api.ErrStale},
		{deltaOf("two to two", 2, 2, fine), api.ErrStale},
		{deltaOf("three to two", 3, 2, fine), api.ErrStale},
		{deltaOf("two to none", 2, 0, ""), api.ErrStale},
		{deltaOf("from nothing", 0, 3, fine), api.ErrGap},
		{deltaOf("nothing, from nothing", 0, 3, ""), api.ErrGap},
		{deltaOf("nothing", 2, 3, ""), api.ErrForm},
		{deltaOf("nothing from one", 1, 3, ""), api.ErrGap},
		{deltaOf("nothing from three", 3, 4, ""), api.ErrGap},
		{deltaOf("nothing to one", 2, 1, ""), api.ErrStale},
		{deltaOf("a byte more", 2, 3, fine+"x"), api.ErrForm},
		{deltaOf("a whole map", 2, 3, wantBytes(y[2])), api.ErrForm},
		{deltaOf("as to four", 2, 4, fine), api.ErrForm},
		{deltaOf("of another base", 2, 3, edited(func(d *api.Delta) { d.Base = 1 })), api.ErrForm},
		{deltaOf("of a base above", 2, 5, edited(func(d *api.Delta) { d.Base, d.Version = 3, 5 })), api.ErrForm},
		{deltaOf("of another version", 2, 3, edited(func(d *api.Delta) { d.Version = 4 })), api.ErrForm},
		{deltaOf("of both others", 2, 3, deltaBytes(y[0], y[1])), api.ErrForm},
		{deltaOf("that may not be", 2, 3, bad), api.ErrMap},
		{deltaOf("that may not be, as to four", 2, 4, bad), api.ErrMap},
		{deltaOf("with another hash", 2, 3, edited(func(d *api.Delta) { d.Hash = key(1) })), api.ErrHash},
		{deltaOf("with another hash, as to four", 2, 4, edited(func(d *api.Delta) { d.Hash = key(1) })), api.ErrForm},
		{deltaOf("of one that is not there", 2, 3, edited(func(d *api.Delta) { d.Gone = []string{key(77)} })), api.ErrMap},
		{deltaOf("without the relays", 2, 3, edited(func(d *api.Delta) { d.HasRelays = true })), api.ErrMap},
		{deltaOf("too long a policy", 2, 3, edited(func(d *api.Delta) { d.HasPolicy, d.Policy = true, "#"+strings.Repeat("x", 8192) })), api.ErrMap},
		{forged(deltaOf("forged", 2, 3, fine)), api.ErrSign},
		{forged(deltaOf("forged, of old", 2, 2, fine)), api.ErrSign},
		{forged(deltaOf("forged, with a gap", 1, 3, fine)), api.ErrSign},
		{item{name: "no signature", delta: true, base: 2, version: 3, data: fine}, api.ErrSign},
		{item{name: "of another base, signed", delta: true, base: 2, version: 3, data: fine, sig: signed(1, 3, fine)}, api.ErrSign},
	} {
		t.Run(c.name, func(t *testing.T) {
			p := newPair(t)
			p.tell(c.item, withoutMap(c.item, c.want))
			p.tell(fullOf("two", 2, wantBytes(y[1])), api.OK)
			for range 2 {
				p.tell(c.item, c.want)
				if c.want == api.OK {
					c.want = api.ErrStale
				}
			}
			p.tell(deltaOf("two to four", 2, 4, deltaBytes(y[1], y[3])), either)
			p.tell(fullOf("and four", 4, wantBytes(y[3])), either)
		})
	}
}

// TestLongResult: P22.5, a delta that makes a map that is too long; one that just fits.
func TestLongResult(t *testing.T) {
	a := filled(crowd(5, 64), 32768)
	longer := api.Delta{Base: 5, Version: 6, HasRelays: true, Relays: relays(1), Hash: key(1)}
	shorter := next(a, func(m *api.Map) { m.Policy = m.Policy[:len(m.Policy)-1] })
	p := newPair(t)
	p.tell(fullOf("full", 5, wantBytes(a)), api.OK)
	p.tell(deltaOf("longer", 5, 6, wantDeltaBytes(longer)), api.ErrLong)
	p.tell(deltaOf("shorter", 5, 6, deltaBytes(a, shorter)), api.OK)
}

// TestLastVersions: P22.5, the last versions that there are, and behind them nothing.
func TestLastVersions(t *testing.T) {
	const last = 1<<64 - 1
	p := newPair(t)
	a, b := small(last-1), small(last)
	b.Policy = "#"
	p.tell(fullOf("last but one", last-1, wantBytes(a)), api.OK)
	p.tell(deltaOf("last", last-1, last, deltaBytes(a, b)), api.OK)
	p.tell(fullOf("last", last, wantBytes(b)), api.ErrStale)
	p.tell(deltaOf("behind it", last, 0, ""), api.ErrStale)
	p.tell(fullOf("behind it", 0, ""), api.ErrStale)
}

// TestOwnMap: P22.5, R5, what is done to an answer's lists is nothing to the holder.
func TestOwnMap(t *testing.T) {
	p := newPair(t)
	for i, m := range years() {
		p.tell(fullOf("full", m.Version, wantBytes(m)), api.OK)
		for range 2 {
			got := p.h.Map()
			got.Peers[0].Tags[0], got.Peers[0].Addrs[0], got.Peers[0].Ends[0] = "x", api.Addr{}, api.Endpoint{}
			got.Relays[0], got.Peers[1] = api.RelayInfo{}, api.Peer{}
			p.whole()
		}
		if i > 0 && alike(p.m.newest().Peers, p.m.maps[i-1].Peers) && alike(p.m.newest().Relays, p.m.maps[i-1].Relays) {
			t.Error("a fault of the test: nothing is new")
		}
	}
}

// TestHoldersApart: R6, what one is told is nothing to another one.
func TestHoldersApart(t *testing.T) {
	p, q := newPair(t), newPair(t)
	y := years()
	p.tell(fullOf("full", 1, wantBytes(y[0])), api.OK)
	q.whole()
	q.tell(deltaOf("delta", 1, 2, deltaBytes(y[0], y[1])), api.ErrGap)
	p.whole()
	p.tell(deltaOf("delta", 1, 2, deltaBytes(y[0], y[1])), api.OK)
	q.tell(fullOf("full", 4, wantBytes(y[3])), api.OK)
	p.whole()
	other, _ := netmap.New(key(1))
	if err := other.Full(1, wantBytes(y[0]), signed(0, 1, wantBytes(y[0]))); err != api.ErrSign || other.Version() != 0 {
		t.Errorf("of another key: %v", err)
	}
}
