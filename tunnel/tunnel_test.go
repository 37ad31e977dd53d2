package tunnel_test

import (
	"crypto/sha256"
	"encoding/hex"
	"math"
	"testing"

	"isthmus/api"
	"isthmus/tunnel"
)

func TestExamples(t *testing.T) {
	a, b := ends(t, 1, 5, example())
	b.sealsNot(5, "text", api.ErrState)
	var sealed []string
	for i := range uint64(3) {
		n, c := a.seal(5, "text")
		if n != i || c == "" {
			t.Errorf("Seal: %d, %x", n, c)
		}
		sealed = append(sealed, c)
	}
	a.sealsNot(5, "text", api.ErrOver)
	b.opens(5, 1, sealed[1], "text")
	b.opensNot(5, 1, sealed[1], api.ErrThere)
	b.opensNot(5, 3, sealed[2], api.ErrOver)
	if n, c := b.seal(5, "text"); n != 0 || c == "" {
		t.Errorf("Seal of the other one: %d, %x", n, c)
	}
	if !a.t.Wants(5) || b.t.Wants(5) || a.t.Over(24) || !a.t.Over(25) {
		t.Error("Wants, Over")
	}
	if api.ErrOver != 180 || api.MaxCount != 1<<60 || api.MaxTicks != 1<<60 || api.MaxSlots != 3 {
		t.Error("package api")
	}
}

// makesNot: New answers ErrArg, and nothing beside it.
func makesNot(t *testing.T, g api.Got, first bool, now uint64, l api.Limits) {
	t.Helper()
	if x, err := tunnel.New(g, first, now, l); x != nil || err != api.ErrArg {
		t.Errorf("New of %d and %d bytes, %v: %v, %v", len(g.Send), len(g.Recv), l, x, err)
	}
}

// TestNewKeys: P18.1, keys of all sizes around that which they have, also where the
// limits may not be.
func TestNewKeys(t *testing.T) {
	wrong := example()
	wrong.Window = 0
	sizes := []int{0, 1, 16, 31, 32, 33, 64, 288}
	for _, send := range sizes {
		for _, recv := range sizes {
			for _, first := range []bool{true, false} {
				g := api.Got{Send: some(send, 1), Recv: some(recv, 2)}
				if send == 32 && recv == 32 {
					newPair(t, g, first, 5, example())
				} else {
					makesNot(t, g, first, 5, example())
				}
				makesNot(t, g, first, 5, wrong)
			}
		}
	}
	// neither is one key taken for both, nor another part for a key
	key := some(32, 3)
	for _, g := range []api.Got{
		{}, {Send: key}, {Recv: key}, {Static: key, Payload: key, Hash: key},
		{Send: key, Hash: key}, {Recv: key, Static: key}, {Send: key + key}, {Recv: key + key},
	} {
		makesNot(t, g, true, 5, example())
	}
}

// TestNewBeside: what else a handshake got counts for nothing.
func TestNewBeside(t *testing.T) {
	for i := range int64(8) {
		g := got(1)
		g.Static, g.Payload, g.Hash = some(int(i*i), i), some(int(i*50), i+1), some(int(31+i%3), i+2)
		a, b := newPair(t, g, true, 5, example()), newPair(t, back(got(1)), false, 5, example())
		n, c := a.seal(5, "text")
		b.opens(5, n, c, "text")
	}
}

// mayBe: the limits, as the chapter's section 'Words' has them.
func mayBe(l api.Limits) bool {
	within := func(x, least, most uint64) bool { return x >= least && x <= most }
	return within(l.RekeyCount, 1, l.Count) && within(l.Count, 0, 1152921504606846976) &&
		within(l.Rekey, 1, l.Life) && within(l.Life, 0, 1152921504606846976) &&
		l.Window >= 1 && l.Window <= 4096
}

// isMade: New answers a tunnel if the limits may be, else ErrArg.
func isMade(t *testing.T, l api.Limits) {
	t.Helper()
	if !mayBe(l) {
		makesNot(t, got(1), true, 5, l)
		makesNot(t, got(1), false, 5, l)
		return
	}
	newPair(t, got(1), true, 5, l)
	newPair(t, got(1), false, 5, l)
}

// TestNewLimits: P18.1, each limit at its edges, and each against the other ones.
func TestNewLimits(t *testing.T) {
	const most = 1 << 60
	for _, l := range []api.Limits{
		{RekeyCount: 1, Count: 1, Rekey: 1, Life: 1, Window: 1},
		{RekeyCount: most, Count: most, Rekey: most, Life: most, Window: 4096},
		{RekeyCount: 1, Count: most, Rekey: 1, Life: most, Window: 1},
	} {
		if !mayBe(l) {
			t.Errorf("%v may be", l)
		}
		isMade(t, l)
	}
	values := []uint64{0, 1, 2, 3, 4, 20, 21, 1 << 32, most - 1, most, most + 1, 1<<61 + 1, 1 << 63, 1<<63 + 1, math.MaxUint64 - 1, math.MaxUint64}
	for _, x := range values {
		for _, y := range values {
			l := example()
			l.RekeyCount, l.Count = x, y
			isMade(t, l)
			l = example()
			l.Rekey, l.Life = x, y
			isMade(t, l)
			isMade(t, api.Limits{RekeyCount: x, Count: most, Rekey: 1, Life: y, Window: 4096})
			isMade(t, api.Limits{RekeyCount: 1, Count: x, Rekey: y, Life: most, Window: 1})
		}
	}
	for _, size := range []int{math.MinInt, math.MinInt32, -4096, -2, -1, 0, 1, 2, 3, 63, 64, 65, 4095, 4096, 4097, 4098, 8192, 1 << 16, 1<<32 + 1, math.MaxInt32, math.MaxInt} {
		l := example()
		l.Window = size
		isMade(t, l)
	}
}

// TestNewLimitsTogether: several limits that may not be, at once.
func TestNewLimitsTogether(t *testing.T) {
	const most = 1 << 60
	values := []uint64{0, 1, 2, most, most + 1}
	for _, rekeyCount := range values {
		for _, count := range values {
			for _, rekey := range values {
				for _, life := range values {
					for _, size := range []int{-1, 0, 1, 4096, 4097} {
						isMade(t, api.Limits{RekeyCount: rekeyCount, Count: count, Rekey: rekey, Life: life, Window: size})
					}
				}
			}
		}
	}
}

// TestVectors: P18.2, what OpenSSL 3.0.19 seals by a key under a number, beside nothing.
func TestVectors(t *testing.T) {
	var up, down [32]byte
	for i := range up {
		up[i], down[i] = byte(i), byte(255-i)
	}
	l := wide()
	for _, c := range []struct {
		key  [32]byte
		n    uint64
		text string
		want string
	}{
		{up, 0, "", "10324f800a160bd9a1794255be7ec29d"},
		{up, 0, "x", "60a2407de2600f7edf1bacba69bf3b8d68"},
		{up, 1, "text", "eb328b2b06069461055e351e7341b73979124447"},
		{up, 2, "isthmus: what two say, once they share keys.", "c0d08a3d8a9fdf54eb385711b8ee15c2abb0df4afd9f6f8ed3c444f1b9cc498cb06a32d60e18c8304490e2a67e5a1d713b327ef8587d5f20815a91d6"},
		{up, 255, "abc", "6e5393f7302783dc6cbf200fb187dcd1fe6537"},
		{up, 256, "abc", "9de39a9f89fa56bed850ea34f256d87b960363"},
		{down, 0, "", "c8a0a8c3765283b88eeccf6139bd1951"},
		{down, 0, "x", "89d23cdd5376efc8c431d2c3670cd88368"},
		{down, 1, "text", "f73477d561638a559ede086d1a5a20aac1a09782"},
		{down, 2, "isthmus: what two say, once they share keys.", "941f5e9964b1c09a6bc5f147aabfc6ed7e984be8b7e95ef36b9c7359cbcb4fbdf02dc8d51639ba63b3815049fe8ab8eb62d08b9e7f1e2809ab2f73c8"},
		{down, 255, "abc", "504596ca20ad701c06cecbb9d54607d82eb886"},
		{down, 256, "abc", "0fc11c43be5b67ef0792b4e1c7907729153b63"},
	} {
		g := api.Got{Send: string(c.key[:]), Recv: some(32, 1)}
		a, b := newPair(t, g, true, 5, l), newPair(t, back(g), false, 5, l)
		for range c.n {
			a.t.Seal(5, "")
		}
		n, sealed, err := a.t.Seal(5, c.text)
		if n != c.n || hex.EncodeToString([]byte(sealed)) != c.want || err != api.OK {
			t.Errorf("number %d, %q: %d, %x, %v", c.n, c.text, n, sealed, err)
		}
		b.opens(5, c.n, sealed, c.text)
	}
	l.Count = api.MaxCount
	last, _ := hex.DecodeString("64d18519424fad707d30287d1125a02b77fb4e66")
	newPair(t, api.Got{Send: some(32, 1), Recv: string(up[:])}, false, 5, l).opens(5, api.MaxCount-1, string(last), "last")
}

// TestFold: the same of 600 texts, of as many bytes as their numbers are.
func TestFold(t *testing.T) {
	var key [32]byte
	for i := range key {
		key[i] = byte(i)
	}
	a := newPair(t, api.Got{Send: string(key[:]), Recv: some(32, 1)}, true, 5, wide())
	b := newPair(t, api.Got{Send: some(32, 1), Recv: string(key[:])}, false, 5, wide())
	sum := sha256.New()
	for i := range 600 {
		text := make([]byte, i)
		for j := range text {
			text[j] = byte(i*7 + j)
		}
		n, c := a.seal(5, string(text))
		b.opens(5, n, c, string(text))
		sum.Write([]byte(c))
	}
	if got := hex.EncodeToString(sum.Sum(nil)); got != "51da9e1ed379a50b96b9016f45e2d61b420914a7bed7cc98d166dbe4f0559f21" {
		t.Error(got)
	}
}

// TestLengths: P18.2 and P18.3, texts of no byte, of few, of as many as may be, and of
// more, by both ends.
func TestLengths(t *testing.T) {
	const most = 1 << 16
	a, b := sureEnds(t, 1, 5, wide())
	for _, p := range [][2]*pair{{a, b}, {b, a}} {
		for _, size := range []int{0, 1, 2, 15, 16, 17, 63, 64, 65, 1500, 1 << 15, most - 1, most} {
			s := some(size, int64(size))
			n, c := p[0].seal(5, s)
			if len(c) != size+16 {
				t.Errorf("%d bytes, sealed: %d", size, len(c))
			}
			p[1].opens(5, n, c, s)
			for _, long := range []int{most + 1, most + 2, most + 16, most + 17, 1 << 17} {
				p[0].sealsNot(5, zeros(long), api.ErrLong)
			}
		}
	}
}

// TestSealedLengths: P18.3, what is too long to be sealed, and what is too short.
func TestSealedLengths(t *testing.T) {
	const most = 1<<16 + 16
	a, b := ends(t, 1, 5, wide())
	n, c := a.seal(5, some(1<<16, 1))
	for _, long := range []int{most + 1, most + 2, 1 << 17} {
		b.opensNot(5, n, zeros(long), api.ErrLong)
		b.opensNot(5, n, c+zeros(long-len(c)), api.ErrLong)
	}
	for _, size := range []int{0, 1, 2, 15, 16, 17, 32, 1 << 15, most - 1, most} {
		b.opensNot(5, n, zeros(size), api.ErrOpen)
		if size < len(c) {
			b.opensNot(5, n, c[:size], api.ErrOpen)
			b.opensNot(5, n, c[len(c)-size:], api.ErrOpen)
		}
	}
	if b.t.Sure() {
		t.Error("sure by what did not open")
	}
	b.opens(5, n, c, some(1<<16, 1))
	b.opensNot(5, n, zeros(most+1), api.ErrThere)
	b.opensNot(5, n, "", api.ErrThere)
}

// TestTurned: P18.6, each bit of texts that were sealed, those with bytes missing, and
// those with more; behind all that the right one opens.
func TestTurned(t *testing.T) {
	a, b := ends(t, 1, 5, wide())
	for _, size := range []int{0, 1, 20} {
		s := some(size, 1)
		n, c := a.seal(5, s)
		for bit := range 8 * len(c) {
			b.opensNot(5, n, turned(c, bit), api.ErrOpen)
		}
		for i := range c {
			b.opensNot(5, n, c[:i], api.ErrOpen)
			b.opensNot(5, n, c[i+1:], api.ErrOpen)
			b.opensNot(5, n, c[:i]+c[i+1:], api.ErrOpen)
			b.opensNot(5, n, c[:i]+"\x00"+c[i:], api.ErrOpen)
		}
		b.opensNot(5, n, c+c, api.ErrOpen)
		b.opensNot(5, n, s, api.ErrOpen)
		if n == 0 && b.t.Sure() {
			t.Error("sure by what did not open")
		}
		b.opens(5, n, c, s)
		b.opensNot(5, n, turned(c, 0), api.ErrThere)
	}
	s := some(1<<16, 2)
	n, c := a.seal(5, s)
	for bit := 0; bit < 8*len(c); bit += 40009 {
		b.opensNot(5, n, turned(c, bit), api.ErrOpen)
	}
	b.opens(5, n, c, s)
}

// TestUnderAnotherNumber: P18.6, a text opens under its own number alone.
func TestUnderAnotherNumber(t *testing.T) {
	a, b := ends(t, 1, 5, wide())
	var sealed []string
	for range 300 {
		_, c := a.seal(5, "text")
		sealed = append(sealed, c)
	}
	for i, c := range sealed {
		for j := range sealed {
			if n := uint64(j); i != j && (i%50 == 0 || j%50 == 0) {
				b.opensNot(5, n, c, api.ErrOpen)
			}
		}
		for _, n := range []uint64{uint64(i) + 1<<8, uint64(i) + 1<<16, uint64(i) + 1<<29} {
			b.opensNot(5, n, c, api.ErrOpen)
		}
	}
	for i, c := range sealed {
		b.opens(5, uint64(i), c, "text")
	}
}

// TestWrongEnd: P18.6, nobody opens what it sealed itself, and no other tunnel's end
// what was not for it, though it has one of both keys.
func TestWrongEnd(t *testing.T) {
	a, b := sureEnds(t, 1, 5, wide())
	c, d := sureEnds(t, 2, 5, wide())
	half := a.m.got
	half.Send = got(3).Send
	e, f := newPair(t, half, true, 5, wide()), newPair(t, back(half), false, 5, wide()) // e receives as a does, f sends as b does
	for range 5 {
		b.seal(5, "") // behind the numbers that b opens
	}
	n, sealed := a.seal(5, "of a")
	for _, p := range []*pair{a, c, d, e, f} {
		p.opensNot(5, n, sealed, api.ErrOpen)
	}
	b.opens(5, n, sealed, "of a")
	n, sealed = b.seal(5, "of b")
	for _, p := range []*pair{b, c, d, f} {
		p.opensNot(5, n, sealed, api.ErrOpen)
	}
	a.opens(5, n, sealed, "of b")
	e.opens(5, n, sealed, "of b") // it has the very key
}

// TestAnotherKey: each bit of a key counts, on both sides.
func TestAnotherKey(t *testing.T) {
	a, b := ends(t, 1, 5, wide())
	n, sealed := a.seal(5, "text")
	for bit := range 256 {
		g := b.m.got
		g.Recv = turned(g.Recv, bit)
		newPair(t, g, false, 5, wide()).opensNot(5, n, sealed, api.ErrOpen)
		g = a.m.got
		g.Send = turned(g.Send, bit)
		other, c := newPair(t, g, true, 5, wide()).seal(5, "text")
		b.opensNot(5, other, c, api.ErrOpen)
	}
	b.opens(5, n, sealed, "text")
}

// TestOneKey: Send and Recv may be one: each end then opens its own texts, too, each
// number once, as the window knows nothing of who sealed it.
func TestOneKey(t *testing.T) {
	g := api.Got{Send: some(32, 1), Recv: some(32, 1)}
	a, b := newPair(t, g, true, 5, wide()), newPair(t, g, false, 5, wide())
	n, c := a.seal(5, "text")
	a.opens(5, n, c, "text")
	b.opens(5, n, c, "text")
	n, d := b.seal(5, "other")
	a.opensNot(5, n, d, api.ErrThere)
	if m, _ := a.seal(5, ""); m != 1 {
		t.Errorf("numbers that are opened and such as are sealed are one: %d", m)
	}
}

// TestApart: tunnels that were made alike answer alike, and know nothing of each other;
// so do both ways of one tunnel.
func TestApart(t *testing.T) {
	a, b := sureEnds(t, 1, 5, wide())
	c, d := ends(t, 1, 5, wide())
	for range 5 {
		a.seal(5, "text")
	}
	if n, sealed := c.seal(5, "text"); n != 0 || sealed != sealedBy(a.m.got.Send, 0, "text") {
		t.Errorf("%d, %x", n, sealed)
	}
	d.sealsNot(5, "text", api.ErrState)
	d.opens(5, 0, sealedBy(a.m.got.Send, 0, "text"), "text")
	a.wipe()
	c.seal(5, "text")
	d.opens(5, 5, sealedBy(a.m.got.Send, 5, "more"), "more")
	b.opens(5, 5, sealedBy(a.m.got.Send, 5, "more"), "more")
	for i := range uint64(5) {
		if n, _ := b.seal(5, "text"); n != i {
			t.Errorf("number %d, want %d", n, i)
		}
	}
}

// TestOutOfOrder: P18.2 and P18.3, numbers are counted from 0 on, by each end, and what is
// refused is not counted; they open from the last one to the first.
func TestOutOfOrder(t *testing.T) {
	l := wide()
	l.Window = 400
	a, b := ends(t, 1, 5, l)
	var sealed []string
	for i := range uint64(400) {
		a.sealsNot(5, zeros(1<<16+1), api.ErrLong)
		n, c := a.seal(5+i, some(int(i), int64(i)))
		if n != i || a.t.Sent() != i+1 {
			t.Errorf("%d, %d, want %d", n, a.t.Sent(), i)
		}
		sealed = append(sealed, c)
	}
	for i := len(sealed) - 1; i >= 0; i-- {
		b.opens(5, uint64(i), sealed[i], some(i, int64(i)))
		b.opensNot(5, uint64(i), sealed[i], api.ErrThere)
	}
	for i := range uint64(10) {
		a.opensNot(5, i, "", api.ErrOpen)
		if n, _ := b.seal(5, ""); n != i {
			t.Errorf("%d, want %d", n, i)
		}
	}
}

// TestSent: texts that are refused, or opened, are none that were sealed.
func TestSent(t *testing.T) {
	a, b := ends(t, 1, 5, example())
	b.sealsNot(5, "", api.ErrState)
	a.sealsNot(25, "", api.ErrOver)
	a.sealsNot(5, zeros(1<<16+1), api.ErrLong)
	n, c := a.seal(5, "")
	b.opens(5, n, c, "")
	if a.t.Sent() != 1 || b.t.Sent() != 0 {
		t.Errorf("%d, %d", a.t.Sent(), b.t.Sent())
	}
	for range 5 {
		a.seal(5, "")
	}
	if a.t.Sent() != 3 {
		t.Errorf("%d", a.t.Sent())
	}
}

// TestSure: the other one is sure once it opened a text, and not by less; the first one
// always is.
func TestSure(t *testing.T) {
	a, b := ends(t, 1, 5, example())
	n, c := a.seal(5, "text")
	b.opensNot(5, n, turned(c, 7), api.ErrOpen)
	b.opensNot(5, n+1, c, api.ErrOpen)
	b.opensNot(5, 3, c, api.ErrOver)
	b.opensNot(25, n, c, api.ErrOver)
	b.opensNot(5, n, zeros(1<<17), api.ErrLong)
	for _, now := range []uint64{0, 5, 24} {
		b.sealsNot(now, "text", api.ErrState)
	}
	if b.t.Sure() || !a.t.Sure() {
		t.Error("Sure")
	}
	b.opens(0, n, c, "text")
	if !b.t.Sure() || !a.t.Sure() {
		t.Error("Sure, behind a text")
	}
	b.opensNot(5, n, c, api.ErrThere)
	for range 3 {
		m, d := b.seal(5, "text")
		a.opens(5, m, d, "text")
	}
	b.sealsNot(5, "text", api.ErrOver)
	if !b.t.Sure() || !a.t.Sure() {
		t.Error("Sure, spent")
	}
}

// TestSpent: P18.2, for small counts all numbers, and none behind; what is spent still
// opens.
func TestSpent(t *testing.T) {
	for count := uint64(1); count < 40; count++ {
		l := wide()
		l.RekeyCount, l.Count = 1, count
		a, b := sureEnds(t, int64(count), 5, l)
		for i := uint64(1); i < count; i++ {
			n, c := a.seal(5, "text")
			b.opens(5, n, c, "text")
		}
		for i := range count {
			n, c := b.seal(5, "text")
			if n != i {
				t.Errorf("number %d, want %d", n, i)
			}
			if i == count-1 {
				a.sealsNot(5, "", api.ErrOver)
				b.sealsNot(5, "", api.ErrOver)
			}
			a.opens(5, n, c, "text")
		}
		for range 3 {
			a.sealsNot(5, "", api.ErrOver)
			b.sealsNot(5, "", api.ErrOver)
		}
		if a.t.Over(5) || b.t.Over(5) || !a.t.Wants(5) || b.t.Wants(5) {
			t.Errorf("count %d: spent is not over", count)
		}
	}
}

// TestWants: P18.4, by the count of texts alone, by the age alone, and by both; the
// other one never does.
func TestWants(t *testing.T) {
	l := api.Limits{RekeyCount: 3, Count: 5, Rekey: 10, Life: 20, Window: 8}
	a, b := sureEnds(t, 1, 100, l)
	want := func(sealed uint64, now uint64) bool { return now < 120 && (sealed >= 3 || now >= 110) }
	for i := uint64(1); i <= 5; i++ {
		for _, now := range []uint64{0, 99, 100, 101, 109, 110, 111, 119, 120, 121, math.MaxUint64} {
			if got := a.t.Wants(now); got != want(i, now) {
				t.Errorf("sealed %d, Wants(%d): %v", i, now, got)
			}
			if b.t.Wants(now) {
				t.Errorf("sealed %d, Wants(%d) of the other one", i, now)
			}
		}
		a.t.Seal(100, "")
		b.t.Seal(100, "")
	}
	l.RekeyCount, l.Rekey = l.Count, l.Life // it is over as soon as it wants by its age
	a, _ = sureEnds(t, 1, 100, l)
	for i := uint64(1); i <= 5; i++ {
		if a.t.Wants(119) != (i == 5) || a.t.Wants(120) || a.t.Wants(121) {
			t.Errorf("sealed %d", i)
		}
		a.t.Seal(100, "")
	}
}
