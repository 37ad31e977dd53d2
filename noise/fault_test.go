package noise_test

import (
	"strings"
	"testing"

	"isthmus/api"
	"isthmus/mont"
	"isthmus/noise"
)

func beginsNot(t *testing.T, what, secret, other, ephemeral, prologue, payload string, want api.Errno) {
	t.Helper()
	if h, m, err := noise.Begin(secret, other, ephemeral, prologue, payload); h != nil || m != "" || err != want {
		t.Errorf("%s: Begin: %v, %x, %v, want %v", what, h != nil, m, err, want)
	}
}

// weakKeys are all bytes of public keys that make nothing, with whatever secret: those
// of 0, 1, -1 and both numbers of the points of which eight times are none, and their
// other names.
func weakKeys(t *testing.T) []string {
	t.Helper()
	rest, last := ones(30), "\x7f"
	out := []string{
		zeros(32), "\x01" + zeros(31), "\xec" + rest + last, "\xed" + rest + last, "\xee" + rest + last,
		unhex(t, "e0eb7a7c3b41b8ae1656e3faf19fc46ada098deb9c32b1fd866205165f49b800"),
		unhex(t, "5f9c95bca3508c24b1d0b1559c83ef5b04445cc4581c8e86d8224eddd09f1157"),
	}
	for _, k := range out {
		out = append(out, turned(k, 255))
	}
	for _, k := range out {
		if _, err := mont.Shared(some(32, 1), k); err != api.ErrWeak {
			t.Fatalf("%x is not weak: %v", k, err)
		}
	}
	return out
}

// TestKeySizes: ErrArg, each secret and key of another size.
func TestKeySizes(t *testing.T) {
	d := talkOf(1, 2, 3, 1)
	_, message := d.begins(t)
	o := d.reads(t, message)
	public := wantPublic(d.b)
	for _, n := range []int{0, 1, 16, 31, 33, 63, 64, 65, 32 + 256, 32 + 65536} {
		for _, k := range []string{zeros(n), some(n, int64(n))} {
			beginsNot(t, "secret", k, public, d.e, d.prologue, d.one, api.ErrArg)
			beginsNot(t, "other", d.a, k, d.e, d.prologue, d.one, api.ErrArg)
			beginsNot(t, "ephemeral", d.a, public, k, d.prologue, d.one, api.ErrArg)
			readsNot(t, "secret", k, d.prologue, message, api.ErrArg)
			answersNot(t, "ephemeral", o, k, d.two, api.ErrArg)
		}
	}
	for _, cut := range []func(string) string{
		func(s string) string { return s[:31] }, func(s string) string { return s[1:] },
		func(s string) string { return s + "\x00" }, func(s string) string { return "\x00" + s },
	} {
		beginsNot(t, "secret", cut(d.a), public, d.e, d.prologue, d.one, api.ErrArg)
		beginsNot(t, "other", d.a, cut(public), d.e, d.prologue, d.one, api.ErrArg)
		beginsNot(t, "ephemeral", d.a, public, cut(d.e), d.prologue, d.one, api.ErrArg)
		readsNot(t, "secret", cut(d.b), d.prologue, message, api.ErrArg)
		answersNot(t, "ephemeral", o, cut(d.f), d.two, api.ErrArg)
	}
}

// TestBeginFaults: P16.1, R2, all sizes around the edges, in every row of them.
func TestBeginFaults(t *testing.T) {
	text, sizes, lengths := some(most+2, 1), []int{0, 31, 32, 33}, []int{0, most, most + 1, most + 2}
	good := wantPublic(some(32, 2))
	for _, secret := range sizes {
		for _, ephemeral := range sizes {
			for _, other := range []string{"", good[:31], good, good + "\x00", zeros(31), zeros(32), zeros(33)} {
				for _, prologue := range lengths {
					for _, payload := range lengths {
						want := wantFault(
							ifSo(secret != 32 || ephemeral != 32 || len(other) != 32, api.ErrArg),
							ifSo(prologue > most || payload > most, api.ErrLong),
							ifSo(other == zeros(32), api.ErrWeak))
						if want != api.OK {
							beginsNot(t, "sizes", text[:secret], other, text[:ephemeral], text[:prologue], text[:payload], want)
						} else if _, m, err := noise.Begin(text[:32], good, text[:32], text[:prologue], text[:payload]); len(m) != 96+payload || err != api.OK {
							t.Errorf("prologue %d, payload %d: %d bytes, %v", prologue, payload, len(m), err)
						}
					}
				}
			}
		}
	}
	for _, long := range []int{1 << 13, 1<<16 + 1, 1 << 17, 1 << 20} {
		beginsNot(t, "prologue", text[:32], good, text[:32], zeros(long), "", api.ErrLong)
		beginsNot(t, "payload", text[:32], good, text[:32], "", zeros(long), api.ErrLong)
	}
}

// TestReadFaults: P16.2, R2, the same of Read: bytes that are no message, of which the
// first 32 are a weak key, or not.
func TestReadFaults(t *testing.T) {
	text := some(most+200, 1)
	for _, secret := range []int{0, 31, 32, 33} {
		for _, prologue := range []int{0, 1, most, most + 1, most + 2} {
			for _, message := range []int{0, 1, 31, 32, 48, 80, 95, 96, 97, 112, most, most + 48, most + 95, most + 96, most + 97, most + 98} {
				for _, m := range []string{text[:message], zeros(message)} {
					want := wantFault(
						ifSo(secret != 32, api.ErrArg),
						ifSo(prologue > most || message > most+96, api.ErrLong),
						ifSo(message < 96, api.ErrShort),
						ifSo(message > 0 && m[0] == 0, api.ErrWeak),
						api.ErrOpen)
					readsNot(t, "sizes", text[:secret], text[:prologue], m, want)
				}
			}
		}
	}
	for _, long := range []int{1 << 13, 1<<16 + 96, 1<<17 + 96, 1 << 20} {
		readsNot(t, "prologue", text[:32], zeros(long), text[:96], api.ErrLong)
		readsNot(t, "message", text[:32], "", zeros(long), api.ErrLong)
	}
	for n := range 96 {
		readsNot(t, "short", text[:32], "", text[:n], api.ErrShort)
	}
}

// TestAnswerFaults: P16.3, R2, the same of Answer, also of one that is not there.
func TestAnswerFaults(t *testing.T) {
	d := talkOf(1, 2, 3, 1)
	_, message := d.begins(t)
	text := some(most+2, 1)
	for _, o := range []*noise.Other{nil, {}, d.reads(t, message)} {
		is := o != nil && *o != noise.Other{}
		for _, ephemeral := range []int{0, 31, 32, 33} {
			for _, payload := range []int{0, 1, most, most + 1, most + 2} {
				want := wantFault(ifSo(!is, api.ErrNil), ifSo(ephemeral != 32, api.ErrArg), ifSo(payload > most, api.ErrLong))
				if want != api.OK {
					answersNot(t, "sizes", o, text[:ephemeral], text[:payload], want)
					continue
				}
				c := d
				c.f, c.two = text[:32], text[:payload]
				answers(t, o, c.f, c.two, c.words().reply(), c.words().wantAnswered())
			}
		}
	}
}

// TestFinishFaults: P16.4, R2, the same of Finish.
func TestFinishFaults(t *testing.T) {
	d := talkOf(1, 2, 3, 1)
	begun, _ := d.begins(t)
	text := some(most+100, 1)
	for _, h := range []*noise.Half{nil, {}, begun} {
		for _, size := range []int{0, 1, 31, 32, 47, 48, 49, 64, 96, most, most + 47, most + 48, most + 49, most + 50, 1 << 16, 1<<16 + 48, 1 << 17} {
			long := strings.Repeat(text, 1+size/len(text))
			for _, r := range []string{long[:size], zeros(size)} {
				want := wantFault(
					ifSo(h != begun, api.ErrNil),
					ifSo(size > most+48, api.ErrLong),
					ifSo(size < 48, api.ErrShort),
					ifSo(size > 0 && r[0] == 0, api.ErrWeak),
					api.ErrOpen)
				finishesNot(t, "sizes", h, r, want)
			}
		}
		for n := range 48 {
			finishesNot(t, "short", h, text[:n], wantFault(ifSo(h != begun, api.ErrNil), api.ErrShort))
		}
	}
}

// TestNotThere: R3, also with what would be right if they were there.
func TestNotThere(t *testing.T) {
	d := talkOf(1, 2, 3, 1)
	w := d.words()
	for _, o := range []*noise.Other{nil, {}, new(noise.Other)} {
		answersNot(t, "not there", o, d.f, d.two, api.ErrNil)
		answersNot(t, "not there", o, "", zeros(most+1), api.ErrNil)
		if o != nil && *o != (noise.Other{}) {
			t.Error("something was done")
		}
	}
	for _, h := range []*noise.Half{nil, {}, new(noise.Half)} {
		finishesNot(t, "not there", h, w.reply(), api.ErrNil)
		finishesNot(t, "not there", h, "", api.ErrNil)
		if h != nil && *h != (noise.Half{}) {
			t.Error("something was done")
		}
	}
}

// TestWeakOther: P16.1, ErrWeak, behind the sizes.
func TestWeakOther(t *testing.T) {
	for _, weak := range weakKeys(t) {
		beginsNot(t, "weak", some(32, 1), weak, some(32, 2), "p", "abc", api.ErrWeak)
		beginsNot(t, "weak", some(31, 1), weak, some(32, 2), "p", "abc", api.ErrArg)
		beginsNot(t, "weak", some(32, 1), weak, some(32, 2), zeros(most+1), "abc", api.ErrLong)
		beginsNot(t, "weak", some(32, 1), weak, some(32, 2), "p", zeros(most+1), api.ErrLong)
	}
}

// TestWeakMessage: P16.2, ErrWeak and ErrOpen, whichever comes first on the way: a
// weak ephemeral key, the first one's key that does not open, or is weak, and the
// payload.
func TestWeakMessage(t *testing.T) {
	d := talkOf(1, 2, 3, 1)
	for _, weak := range weakKeys(t) {
		w := d.words()
		w.ephemeral, w.es = weak, zeros(32) // all is sealed as if they made that
		m := w.message()
		readsNot(t, "weak ephemeral", d.b, d.prologue, m, api.ErrWeak)
		for _, at := range []int{32, 79, 80, len(m) - 1} {
			readsNot(t, "weak ephemeral, turned", d.b, d.prologue, with(m, at, 1), api.ErrWeak)
		}
		readsNot(t, "weak ephemeral, another prologue", d.b, "", m, api.ErrWeak)

		w = d.words()
		w.first, w.ss = weak, zeros(32)
		m = w.message()
		readsNot(t, "weak static", d.b, d.prologue, m, api.ErrWeak)
		for at := 80; at < len(m); at++ {
			readsNot(t, "weak static, the payload turned", d.b, d.prologue, with(m, at, 1), api.ErrWeak)
		}
		for at := range 80 {
			if at%7 == 0 || at == 31 || at == 79 {
				readsNot(t, "weak static, turned", d.b, d.prologue, with(m, at, 1), api.ErrOpen)
			}
		}
		readsNot(t, "weak static, another prologue", d.b, "", m, api.ErrOpen)
		readsNot(t, "weak static, short", d.b, d.prologue, m[:95], api.ErrShort)

		// what the key before would open is not opened, either
		_, k := wantKeys(w.es)
		sealed := wantSealed(k, wantHash(w.prologue, w.other, w.ephemeral, w.sealedFirst()), w.payload)
		readsNot(t, "weak static, the key before", d.b, d.prologue, w.ephemeral+w.sealedFirst()+sealed, api.ErrWeak)
	}
}

// TestWeakReply: P16.4, ErrWeak ahead of ErrOpen.
func TestWeakReply(t *testing.T) {
	d := talkOf(1, 2, 3, 1)
	h, _ := d.begins(t)
	for _, weak := range weakKeys(t) {
		w := d.words()
		w.theirs, w.ee, w.se = weak, zeros(32), zeros(32)
		r := w.reply()
		finishesNot(t, "weak", h, r, api.ErrWeak)
		finishesNot(t, "weak, turned", h, with(r, len(r)-1, 1), api.ErrWeak)
		finishesNot(t, "weak, short", h, r[:47], api.ErrShort)
	}
	w := d.words()
	finishes(t, h, w.reply(), w.wantFinished())
}

// TestOtherNames: keys by another one of their names (layer 3) count as the bytes that
// they are: so they are mixed, sealed and told, and make what the key makes.
func TestOtherNames(t *testing.T) {
	d := talkOf(1, 2, 3, 1)
	for i := range 4 {
		w := d.words()
		name := func(bit int, s string) string {
			if i>>bit&1 == 1 {
				return turned(s, 255)
			}
			return s
		}
		w.first, w.ephemeral = name(0, w.first), name(1, w.ephemeral)
		o, got, err := noise.Read(d.b, d.prologue, w.message())
		if err != api.OK || got != w.wantRead() {
			t.Fatalf("names %d: Read: %x, %v", i, got, err)
		}
		answers(t, o, d.f, d.two, w.reply(), w.wantAnswered())

		w = d.words()
		w.other, w.theirs = name(0, w.other), name(1, w.theirs)
		h, m, err := noise.Begin(d.a, w.other, d.e, d.prologue, d.one)
		if err != api.OK || m != w.message() {
			t.Fatalf("names %d: Begin: %x, %v", i, m, err)
		}
		finishes(t, h, w.reply(), w.wantFinished())
		if w.other != wantPublic(d.b) {
			readsNot(t, "another name", d.b, d.prologue, m, api.ErrOpen)
		}
	}
}

// TestTurnedMessage: P16.5, each bit of messages, and all other bytes at the edges of
// what they are made of.
func TestTurnedMessage(t *testing.T) {
	for _, size := range []int{0, 1, 20} {
		d := talkOf(size, size, 0, int64(size))
		_, m := d.begins(t)
		for bit := range 8 * len(m) {
			readsNot(t, "a bit turned", d.b, d.prologue, turned(m, bit), api.ErrOpen)
		}
		d.reads(t, m)
	}
	d := talkOf(1, 2, 3, 1)
	_, m := d.begins(t)
	for by := 1; by < 256; by++ {
		for _, at := range []int{0, 31, 32, 63, 64, 79, 80, 81, 82, len(m) - 1} {
			readsNot(t, "a byte turned", d.b, d.prologue, with(m, at, byte(by)), api.ErrOpen)
		}
	}
	long := talkOf(most, most, 0, 1)
	_, m = long.begins(t)
	for at := 0; at < len(m); at += 41 {
		readsNot(t, "a byte turned", long.b, long.prologue, with(m, at, 128), api.ErrOpen)
	}
	long.reads(t, m)
}

// TestTurnedReply: P16.5, the same of replies.
func TestTurnedReply(t *testing.T) {
	for _, size := range []int{0, 1, 20} {
		d := talkOf(size, 0, size, int64(size))
		h, _ := d.begins(t)
		w := d.words()
		for bit := range 8 * len(w.reply()) {
			finishesNot(t, "a bit turned", h, turned(w.reply(), bit), api.ErrOpen)
		}
		finishes(t, h, w.reply(), w.wantFinished())
	}
	d := talkOf(1, 2, 3, 1)
	h, _ := d.begins(t)
	r := d.words().reply()
	for by := 1; by < 256; by++ {
		for _, at := range []int{0, 31, 32, 34, 35, len(r) - 1} {
			finishesNot(t, "a byte turned", h, with(r, at, byte(by)), api.ErrOpen)
		}
	}
	long := talkOf(0, 0, most, 1)
	h, _ = long.begins(t)
	r = long.words().reply()
	for at := 0; at < len(r); at += 41 {
		finishesNot(t, "a byte turned", h, with(r, at, 128), api.ErrOpen)
	}
}

// TestCut: messages and replies with bytes missing, behind them or between.
func TestCut(t *testing.T) {
	for _, size := range []int{0, 1, 40} {
		d := talkOf(3, size, size, int64(size))
		h, m := d.begins(t)
		r := d.words().reply()
		short := func(s string, least int) api.Errno { return wantFault(ifSo(len(s) < least, api.ErrShort), api.ErrOpen) }
		for n := range m {
			readsNot(t, "cut", d.b, d.prologue, m[:n], short(m[:n], 96))
			if n > 0 {
				readsNot(t, "without its front", d.b, d.prologue, m[n:], short(m[n:], 96))
			}
		}
		for n := range r {
			finishesNot(t, "cut", h, r[:n], short(r[:n], 48))
			if n > 0 {
				finishesNot(t, "without its front", h, r[n:], short(r[n:], 48))
			}
		}
		for _, more := range []string{"\x00", "\xff", zeros(16), m, r} {
			for _, at := range []int{0, 32, 80, len(m)} {
				readsNot(t, "more", d.b, d.prologue, m[:at]+more+m[at:], api.ErrOpen)
			}
			for _, at := range []int{0, 32, len(r)} {
				finishesNot(t, "more", h, r[:at]+more+r[at:], api.ErrOpen)
			}
		}
	}
	d := talkOf(0, most, most, 1)
	h, m := d.begins(t)
	r := d.words().reply()
	readsNot(t, "one byte more than it may have", d.b, "", m+"\x00", api.ErrLong)
	readsNot(t, "one byte fewer", d.b, "", m[:len(m)-1], api.ErrOpen)
	finishesNot(t, "one byte more than it may have", h, r+"\x00", api.ErrLong)
	finishesNot(t, "one byte fewer", h, r[:len(r)-1], api.ErrOpen)
}

// TestDrawn: bytes that nobody made for it, of all lengths that may be, alone and behind
// keys that are right.
func TestDrawn(t *testing.T) {
	d := talkOf(1, 2, 3, 1)
	h, m := d.begins(t)
	r := d.words().reply()
	for seed := range int64(100) {
		rest := some(most, seed)[:seed*41%most]
		readsNot(t, "drawn", d.b, d.prologue, some(96, seed)+rest, api.ErrOpen)
		readsNot(t, "drawn behind a key", d.b, d.prologue, m[:32]+some(64, seed)+rest, api.ErrOpen)
		readsNot(t, "drawn behind both keys", d.b, d.prologue, m[:80]+some(16, seed)+rest, api.ErrOpen)
		finishesNot(t, "drawn", h, some(48, seed)+rest, api.ErrOpen)
		finishesNot(t, "drawn behind a key", h, r[:32]+some(16, seed)+rest, api.ErrOpen)
	}
}

// TestAnotherPrologue: neither end takes what was said behind another one.
func TestAnotherPrologue(t *testing.T) {
	d := talkOf(9, 2, 3, 1)
	_, m := d.begins(t)
	w := d.words()
	others := []string{"", d.prologue[:8], d.prologue[1:], d.prologue + "\x00", "\x00" + d.prologue, d.prologue + d.prologue, some(9, 7), zeros(9), some(most, 1)}
	for bit := range 8 * 9 {
		others = append(others, turned(d.prologue, bit))
	}
	for _, other := range others {
		readsNot(t, "another prologue", d.b, other, m, api.ErrOpen)
		c := d
		c.prologue = other
		h, _ := c.begins(t)
		finishesNot(t, "another prologue", h, w.reply(), api.ErrOpen)
	}
	d.reads(t, m)
}

// TestAnotherSecret: nobody else reads the message, and no other half takes the reply.
// Of a secret five bits count for nothing (layer 3).
func TestAnotherSecret(t *testing.T) {
	d := talkOf(1, 2, 3, 1)
	_, m := d.begins(t)
	w := d.words()
	for bit := range 256 {
		same := bit < 3 || bit > 253
		for i, of := range []func(c *talk) *string{
			func(c *talk) *string { return &c.a }, func(c *talk) *string { return &c.b }, func(c *talk) *string { return &c.e },
		} {
			c := d
			secret := of(&c)
			*secret = turned(*secret, bit)
			if i == 1 && same {
				c.reads(t, m)
			} else if i == 1 {
				readsNot(t, "another secret", c.b, d.prologue, m, api.ErrOpen)
			}
			if !same && bit%8 != 0 {
				continue
			}
			if h, _ := c.begins(t); same {
				finishes(t, h, w.reply(), w.wantFinished())
			} else {
				finishesNot(t, "another half", h, w.reply(), api.ErrOpen)
			}
		}
	}
	for _, other := range []string{d.a, d.e, d.f, zeros(32), ones(32), wantPublic(d.b)} {
		readsNot(t, "another secret", other, d.prologue, m, api.ErrOpen)
	}
}

// TestAnotherPayload: a half that handed something else over does not take the reply.
func TestAnotherPayload(t *testing.T) {
	d := talkOf(1, 2, 3, 1)
	w := d.words()
	for _, other := range []string{"", d.one[:1], d.one + "\x00", turned(d.one, 0), turned(d.one, 15)} {
		c := d
		c.one = other
		h, _ := c.begins(t)
		finishesNot(t, "another payload", h, w.reply(), api.ErrOpen)
	}
}

// TestTurnedRound: neither is a message taken for a reply, nor a reply for a message,
// and what one said is not taken by it.
func TestTurnedRound(t *testing.T) {
	d := talkOf(1, 60, 70, 1)
	h, m := d.begins(t)
	r := d.words().reply()
	finishesNot(t, "its own message", h, m, api.ErrOpen)
	readsNot(t, "its own reply", d.b, d.prologue, r, api.ErrOpen)
	readsNot(t, "its own message", d.a, d.prologue, m, api.ErrOpen)
	readsNot(t, "the reply", d.a, d.prologue, r, api.ErrOpen)
	back := talk{d.b, d.a, d.e, d.f, d.prologue, d.one, d.two}
	bh, bm := back.begins(t)
	readsNot(t, "the message to the other one", d.b, d.prologue, bm, api.ErrOpen)
	finishesNot(t, "the reply to the other one", bh, r, api.ErrOpen)
}

// TestPieces: what is put together of two handshakes of the same two is none.
func TestPieces(t *testing.T) {
	c := talkOf(1, 2, 3, 1)
	d := c
	d.e, d.f = some(32, 5), some(32, 6)
	h, cm := c.begins(t)
	_, dm := d.begins(t)
	cr, dr := c.words().reply(), d.words().reply()
	for _, m := range []string{cm[:32] + dm[32:], cm[:80] + dm[80:], dm[:32] + cm[32:], dm[:80] + cm[80:], cm[:32] + dm[32:80] + cm[80:]} {
		readsNot(t, "pieces", c.b, c.prologue, m, api.ErrOpen)
	}
	for _, r := range []string{dr, cr[:32] + dr[32:], dr[:32] + cr[32:]} {
		finishesNot(t, "pieces", h, r, api.ErrOpen)
	}
}
