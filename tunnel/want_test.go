package tunnel_test

import (
	"encoding/binary"
	"fmt"
	"math"
	"math/big"
	"math/rand"
	"strings"
	"testing"

	"isthmus/aead"
	"isthmus/api"
	"isthmus/tunnel"
)

// model is one end as P18.1 to P18.4 write it, once more: a plain set of all numbers that
// it opened, old ones too, ages by numbers of any size, and whatever may be asked for
// worked out of these. aead is below both, so that a fault of its shows in TestVectors
// alone.
type model struct {
	got    api.Got
	first  bool
	made   uint64
	limits api.Limits
	sealed uint64
	opened map[uint64]bool
	wiped  bool
}

func newModel(g api.Got, first bool, made uint64, l api.Limits) *model {
	return &model{got: g, first: first, made: made, limits: l, opened: map[uint64]bool{}}
}

func number(n uint64) *big.Int { return new(big.Int).SetUint64(n) }

// aged: the time it was made and so many ticks, one at least, are no more than now.
func (m *model) aged(now, ticks uint64) bool {
	then := new(big.Int).Add(number(m.made), number(ticks))
	return then.Cmp(number(now)) <= 0
}

func (m *model) over(now uint64) bool { return m.wiped || m.aged(now, m.limits.Life) }

func (m *model) sure() bool { return m.first || len(m.opened) > 0 }

func (m *model) spent() bool { return m.sealed == m.limits.Count }

func (m *model) wants(now uint64) bool {
	return m.first && !m.over(now) && (m.sealed >= m.limits.RekeyCount || m.aged(now, m.limits.Rekey))
}

// old: n and the window's size together are no more than a number that it opened.
func (m *model) old(n uint64) bool {
	first := new(big.Int).Add(number(n), big.NewInt(int64(m.limits.Window)))
	for h := range m.opened {
		if first.Cmp(number(h)) <= 0 {
			return true
		}
	}
	return false
}

func nonce(n uint64) string {
	return string(binary.LittleEndian.AppendUint64(make([]byte, 4), n))
}

// sealedBy is s, sealed by a key under a number, whatever a tunnel would say to that.
func sealedBy(key string, n uint64, s string) string {
	c, err := aead.Seal(key, nonce(n), "", s)
	if err != api.OK {
		panic(err)
	}
	return c
}

func (m *model) seal(now uint64, s string) (uint64, string, api.Errno) {
	if err := firstOf(
		ifSo(m.over(now) || m.spent(), api.ErrOver),
		ifSo(!m.sure(), api.ErrState),
		ifSo(len(s) > 65536, api.ErrLong)); err != api.OK {
		return 0, "", err
	}
	m.sealed++
	return m.sealed - 1, sealedBy(m.got.Send, m.sealed-1, s), api.OK
}

func (m *model) open(now, n uint64, c string) (string, api.Errno) {
	if err := firstOf(
		ifSo(m.over(now) || n >= m.limits.Count, api.ErrOver),
		ifSo(m.old(n), api.ErrOld),
		ifSo(m.opened[n], api.ErrThere)); err != api.OK {
		return "", err
	}
	s, err := aead.Open(m.got.Recv, nonce(n), "", c)
	if err == api.OK {
		m.opened[n] = true
	}
	return s, err
}

// firstOf is the first of these that is none.
func firstOf(faults ...api.Errno) api.Errno {
	for _, f := range faults {
		if f != api.OK {
			return f
		}
	}
	return api.OK
}

// ifSo is the error, if that holds.
func ifSo(holds bool, err api.Errno) api.Errno {
	if holds {
		return err
	}
	return api.OK
}

// pair is a tunnel and its model, which are told the same.
type pair struct {
	*testing.T
	t *tunnel.Tunnel
	m *model
}

func newPair(t *testing.T, g api.Got, first bool, made uint64, l api.Limits) *pair {
	t.Helper()
	x, err := tunnel.New(g, first, made, l)
	if x == nil || err != api.OK {
		t.Fatalf("New(.., %v, %d, %v): %v, %v", first, made, l, x, err)
	}
	p := &pair{T: t, t: x, m: newModel(g, first, made, l)}
	p.asks()
	return p
}

// seal seals s, and is what came of it.
func (p *pair) seal(now uint64, s string) (uint64, string) {
	p.Helper()
	n, c, err := p.t.Seal(now, s)
	wantN, wantC, want := p.m.seal(now, s)
	if n != wantN || c != wantC || err != want {
		p.Fatalf("%s: Seal(%d, %d bytes): %d, %.20x, %v, want %d, %.20x, %v", p.name(), now, len(s), n, c, err, wantN, wantC, want)
	}
	p.asks()
	return n, c
}

// open opens c, and tells whether it did.
func (p *pair) open(now, n uint64, c string) (string, bool) {
	p.Helper()
	s, err := p.t.Open(now, n, c)
	if wantS, want := p.m.open(now, n, c); s != wantS || err != want {
		p.Fatalf("%s: Open(%d, %d, %d bytes): %.20x, %v, want %.20x, %v", p.name(), now, n, len(c), s, err, wantS, want)
	}
	p.asks()
	return s, err == api.OK
}

// opens opens c, which was sealed as s.
func (p *pair) opens(now, n uint64, c, s string) {
	p.Helper()
	if got, is := p.open(now, n, c); !is || got != s {
		p.Fatalf("%s: Open(%d, %d, %d bytes): %.20x, %v", p.name(), now, n, len(c), got, is)
	}
}

// sealsNot and opensNot ask for an error by its name, beside what the model says.
func (p *pair) sealsNot(now uint64, s string, want api.Errno) {
	p.Helper()
	if n, c, err := p.t.Seal(now, s); n != 0 || c != "" || err != want {
		p.Fatalf("%s: Seal(%d, %d bytes): %d, %.20x, %v, want %v", p.name(), now, len(s), n, c, err, want)
	}
	p.seal(now, s)
}

func (p *pair) opensNot(now, n uint64, c string, want api.Errno) {
	p.Helper()
	if s, err := p.t.Open(now, n, c); s != "" || err != want {
		p.Fatalf("%s: Open(%d, %d, %d bytes): %.20x, %v, want %v", p.name(), now, n, len(c), s, err, want)
	}
	p.open(now, n, c)
}

func (p *pair) wipe() {
	p.Helper()
	p.t.Wipe()
	p.m.wiped = true
	p.asks()
}

// asks asks for all that hangs on no text, at all times that count.
func (p *pair) asks() {
	p.Helper()
	if got, want := p.t.Sure(), p.m.sure(); got != want {
		p.Fatalf("%s: Sure: %v", p.name(), got)
	}
	if got, want := p.t.Sent(), p.m.sealed; got != want {
		p.Fatalf("%s: Sent: %d, want %d", p.name(), got, want)
	}
	for _, now := range p.m.times() {
		if got, want := p.t.Over(now), p.m.over(now); got != want {
			p.Fatalf("%s: Over(%d): %v", p.name(), now, got)
		}
		if got, want := p.t.Wants(now), p.m.wants(now); got != want {
			p.Fatalf("%s: Wants(%d): %v", p.name(), now, got)
		}
	}
}

func (p *pair) name() string {
	return fmt.Sprintf("made at %d, first %v, sealed %d, opened %d", p.m.made, p.m.first, p.m.sealed, len(p.m.opened))
}

// near are x and those next to it, as far as they are numbers.
func near(x uint64) []uint64 {
	out := []uint64{x}
	if x > 0 {
		out = append(out, x-1)
	}
	if x < math.MaxUint64 {
		out = append(out, x+1)
	}
	return out
}

// times are those around the edges of a tunnel's life, and of all times.
func (m *model) times() []uint64 {
	out := []uint64{0, 1, 1 << 63, math.MaxUint64 - 1, math.MaxUint64}
	for _, ticks := range []uint64{0, m.limits.Rekey, m.limits.Life} {
		out = append(out, near(m.made+ticks)...) // what goes round is a time that is earlier
	}
	return out
}

// example are the limits of the chapter's examples.
func example() api.Limits {
	return api.Limits{RekeyCount: 2, Count: 3, Rekey: 10, Life: 20, Window: 8}
}

// wide are limits that most tests do not come to.
func wide() api.Limits {
	return api.Limits{RekeyCount: 1 << 20, Count: 1 << 30, Rekey: 1 << 20, Life: 1 << 30, Window: 64}
}

// some are so many bytes, drawn by a seed.
func some(n int, seed int64) string {
	out := make([]byte, n)
	rand.New(rand.NewSource(seed)).Read(out)
	return string(out)
}

func zeros(n int) string { return strings.Repeat("\x00", n) }

// got is what the first one of a handshake has, by a seed; back is the other one's.
func got(seed int64) api.Got { return api.Got{Send: some(32, 2*seed), Recv: some(32, 2*seed+1)} }

func back(g api.Got) api.Got {
	g.Send, g.Recv = g.Recv, g.Send
	return g
}

// ends are both ends of a tunnel: the first one's, and the other one's.
func ends(t *testing.T, seed int64, made uint64, l api.Limits) (a, b *pair) {
	t.Helper()
	return newPair(t, got(seed), true, made, l), newPair(t, back(got(seed)), false, made, l)
}

// sureEnds are two that are sure: the other one opened a text, the number 0.
func sureEnds(t *testing.T, seed int64, made uint64, l api.Limits) (a, b *pair) {
	t.Helper()
	a, b = ends(t, seed, made, l)
	n, c := a.seal(made, "")
	b.opens(made, n, c, "")
	return a, b
}

// turned is s with one bit turned.
func turned(s string, bit int) string {
	b := []byte(s)
	b[bit/8] ^= 1 << (bit % 8)
	return string(b)
}
