package noise_test

import (
	"crypto/sha256"
	"encoding/hex"
	"math/rand"
	"strings"
	"testing"

	"isthmus/aead"
	"isthmus/api"
	"isthmus/noise"
)

const most = 4096 // bytes of a prologue, of a payload

// stepped are so many bytes, from one on by a step.
func stepped(count, step, from int) string {
	b := make([]byte, count)
	for i := range b {
		b[i] = byte(i*step + from)
	}
	return string(b)
}

func zeros(count int) string { return strings.Repeat("\x00", count) }

func ones(count int) string { return strings.Repeat("\xff", count) }

// some are so many bytes, the same ones in every run.
func some(count int, seed int64) string {
	b := make([]byte, count)
	rand.New(rand.NewSource(seed)).Read(b)
	return string(b)
}

// with is s, one byte of it exclusive or another one.
func with(s string, at int, by byte) string {
	b := []byte(s)
	b[at] ^= by
	return string(b)
}

// turned is s with one bit another one.
func turned(s string, bit int) string { return with(s, bit/8, 1<<(bit%8)) }

func unhex(t *testing.T, s string) string {
	t.Helper()
	b, err := hex.DecodeString(s)
	if err != nil {
		t.Fatal(err)
	}
	return string(b)
}

// talkOf is a talk of drawn secrets, with a prologue and payloads of so many bytes.
func talkOf(prologue, one, two int, seed int64) talk {
	all := some(4*32+prologue+one+two, seed)
	d := talk{a: all[:32], b: all[32:64], e: all[64:96], f: all[96:128]}
	rest := all[128:]
	d.prologue, d.one, d.two = rest[:prologue], rest[prologue:prologue+one], rest[prologue+one:]
	return d
}

func (d talk) begins(t *testing.T) (*noise.Half, string) {
	t.Helper()
	h, message, err := noise.Begin(d.a, wantPublic(d.b), d.e, d.prologue, d.one)
	if h == nil || err != api.OK || len(message) != 96+len(d.one) {
		t.Fatalf("Begin: %d bytes, %v", len(message), err)
	}
	return h, message
}

func (d talk) reads(t *testing.T, message string) *noise.Other {
	t.Helper()
	o, got, err := noise.Read(d.b, d.prologue, message)
	if want := (api.Got{Static: wantPublic(d.a), Payload: d.one}); o == nil || err != api.OK || got != want {
		t.Fatalf("Read: %x, %v", got, err)
	}
	return o
}

// readsNot holds Read against the error that is wanted.
func readsNot(t *testing.T, what, secret, prologue, message string, want api.Errno) {
	t.Helper()
	if o, got, err := noise.Read(secret, prologue, message); o != nil || got != (api.Got{}) || err != want {
		t.Errorf("%s: Read: %v, %x, %v, want %v", what, o != nil, got, err, want)
	}
}

func answers(t *testing.T, o *noise.Other, ephemeral, payload, reply string, want api.Got) {
	t.Helper()
	if r, got, err := o.Answer(ephemeral, payload); r != reply || got != want || err != api.OK {
		t.Errorf("Answer: got %x, %x, %v, want %x, %x", r, got, err, reply, want)
	}
}

func answersNot(t *testing.T, what string, o *noise.Other, ephemeral, payload string, want api.Errno) {
	t.Helper()
	if r, got, err := o.Answer(ephemeral, payload); r != "" || got != (api.Got{}) || err != want {
		t.Errorf("%s: Answer: %x, %x, %v, want %v", what, r, got, err, want)
	}
}

func finishes(t *testing.T, h *noise.Half, reply string, want api.Got) {
	t.Helper()
	if got, err := h.Finish(reply); got != want || err != api.OK {
		t.Errorf("Finish: got %x, %v, want %x", got, err, want)
	}
}

func finishesNot(t *testing.T, what string, h *noise.Half, reply string, want api.Errno) {
	t.Helper()
	if got, err := h.Finish(reply); got != (api.Got{}) || err != want {
		t.Errorf("%s: Finish: %x, %v, want %v", what, got, err, want)
	}
}

// runs is a whole handshake, each step of which is asked for P16.5 alone.
func (d talk) runs(t *testing.T) said {
	t.Helper()
	h, message := d.begins(t)
	o := d.reads(t, message)
	reply, theirs, err := o.Answer(d.f, d.two)
	if err != api.OK || len(reply) != 48+len(d.two) || theirs.Static != wantPublic(d.a) || theirs.Payload != "" {
		t.Fatalf("Answer: %x, %x, %v", reply, theirs, err)
	}
	mine, err := h.Finish(reply)
	if err != api.OK || mine.Static != wantPublic(d.b) || mine.Payload != d.two {
		t.Fatalf("Finish: %x, %v", mine, err)
	}
	if mine.Hash != theirs.Hash || mine.Send != theirs.Recv || mine.Recv != theirs.Send {
		t.Errorf("unlike ends: %x, %x", mine, theirs)
	}
	if len(mine.Hash) != 32 || len(mine.Send) != 32 || len(mine.Recv) != 32 || mine.Send == mine.Recv {
		t.Errorf("a hash or keys that may not be: %x", mine)
	}
	return said{message, reply, mine.Send, mine.Recv, mine.Hash}
}

// isWanted is a whole handshake, held byte by byte against the chapter's words.
func (d talk) isWanted(t *testing.T) {
	t.Helper()
	if got, want := d.runs(t), d.words().said(); got != want {
		t.Errorf("prologue %d, payloads %d and %d: got %x, want %x", len(d.prologue), len(d.one), len(d.two), got, want)
	}
}

func TestExamples(t *testing.T) {
	key := func(c string) string { return strings.Repeat(c, 32) }
	d := talk{key("a"), key("b"), key("e"), key("f"), "p", "abc", "xy"}
	h, message := d.begins(t)
	if len(message) != 99 {
		t.Errorf("a message of %d bytes", len(message))
	}
	o := d.reads(t, message)
	readsNot(t, "another prologue", d.b, "q", message, api.ErrOpen)
	reply, _, err := o.Answer(d.f, "xy")
	if len(reply) != 50 || err != api.OK {
		t.Errorf("Answer: %d bytes, %v", len(reply), err)
	}
	if got, err := h.Finish(reply); got.Payload != "xy" || err != api.OK {
		t.Errorf("Finish: %x, %v", got, err)
	}
	readsNot(t, "95 bytes", d.b, "p", message[:95], api.ErrShort)
	beginsNot(t, "31 bytes", d.a[1:], wantPublic(d.b), d.e, "p", "abc", api.ErrArg)
	beginsNot(t, "to 32 bytes 0", d.a, zeros(32), d.e, "p", "abc", api.ErrWeak)
}

// TestVectors: whole handshakes as flynn/noise 1.1.0, another program for Noise, makes
// them of the same secrets. The first one stands so among its own tests, too, but for
// the keys and the hash.
func TestVectors(t *testing.T) {
	d := talk{a: stepped(32, 1, 0), b: stepped(32, 1, 1), e: stepped(32, 1, 32), f: stepped(32, 1, 65)}
	is := func(d talk, message, reply, forth, back, hash string) {
		t.Helper()
		want := said{unhex(t, message), unhex(t, reply), unhex(t, forth), unhex(t, back), unhex(t, hash)}
		if got := d.runs(t); got != want {
			t.Errorf("got %x, want %x", got, want)
		}
	}
	is(d,
		"358072d6365880d1aeea329adf9121383851ed21a28e3b75e965d0d2cd166254c9f0dff42c86abe5677abe74f6c87301577dbc1f3ffb2213827ca694a057fdbbff7f7350265fe61102c24d7d7a7e960ba8b90a679895087c7d28b1d6703f9727",
		"64b101b1d0be5a8704bd078f9895001fc03e8e9f9522f188dd128d9846d4846622bf9c6171ddd4c8f682080b03504eee",
		"7fcdf965612cf21bf53883add57fe44300a4d1c99efe29bcaa4f655182f92704",
		"9f6300605da8f24da50f3a19018b5db3083271efaa42e8c0056e90e42f6ed0b5",
		"1f040cbbbdc1296330381dd15b09a2e18f6853f89ab69f380e526a6d4413fa3f")
	d.prologue, d.one, d.two = "isthmus", "who speaks", "to whom"
	is(d,
		"358072d6365880d1aeea329adf9121383851ed21a28e3b75e965d0d2cd166254c9f0dff42c86abe5677abe74f6c87301577dbc1f3ffb2213827ca694a057fdbbe1aa1efe2a378b958aa91af1805ad4e5701be0e79c756dee66be1c35f202e5fbec693a2235e329349623",
		"64b101b1d0be5a8704bd078f9895001fc03e8e9f9522f188dd128d9846d484667f17d8d18eb4470abd3a72748144b93b1510659f8e85f3",
		"7fcdf965612cf21bf53883add57fe44300a4d1c99efe29bcaa4f655182f92704",
		"9f6300605da8f24da50f3a19018b5db3083271efaa42e8c0056e90e42f6ed0b5",
		"6b59038d5bd003d4d444098104d9c692d08dd1d74ca8757d196925df795e688c")
}

// isFold: messages, replies, keys and hashes, one behind the other, digested.
func isFold(t *testing.T, what, want string, talks func(put func(d talk))) {
	t.Helper()
	fold := sha256.New()
	talks(func(d talk) {
		s := d.runs(t)
		fold.Write([]byte(s.message + s.reply + s.forth + s.back + s.hash))
	})
	if d := hex.EncodeToString(fold.Sum(nil)); d != want {
		t.Errorf("%s: got %s, want %s", what, d, want)
	}
}

// steppedTalk has a prologue and payloads of so many bytes, and secrets of n.
func steppedTalk(n, prologue, one, two int) talk {
	return talk{
		stepped(32, 7, n), stepped(32, 5, n+1), stepped(32, 3, n+2), stepped(32, 11, n+3),
		stepped(prologue, 3, n), stepped(one, 5, n), stepped(two, 7, n),
	}
}

// TestFolds: many handshakes, as flynn/noise 1.1.0 makes them: of small lengths, of
// those at the bounds, and of secrets that are all bytes 0 or 255.
func TestFolds(t *testing.T) {
	isFold(t, "lengths", "853947abdeeffd50acf1751f3fa5e1a93dd5ac4111fb208af59cd9dc782583db", func(put func(d talk)) {
		for n := range 200 {
			put(steppedTalk(n, n*7%131, n, n*3%97))
		}
	})
	isFold(t, "bounds", "0fb63a7a8fe05c175a7fede2414150da45665b6cafcfc0109b1894da3f216a81", func(put func(d talk)) {
		edges := []int{0, 1, most - 1, most}
		for _, p := range edges {
			for _, one := range edges {
				for _, two := range edges {
					put(steppedTalk(p+one+two, p, one, two))
				}
			}
		}
	})
	isFold(t, "secrets", "40cb2abdbb33c8a8eb2a044d089509974b019ad636baf63598adaae9beb16ac4", func(put func(d talk)) {
		for i := range 16 {
			of := func(bit int) string { return []string{zeros(32), ones(32)}[i>>bit&1] }
			put(talk{of(0), of(1), of(2), of(3), "p", "abc", "xy"})
		}
	})
}

// TestWhole: P16.1 to P16.5, of drawn secrets, prologues and payloads.
func TestWhole(t *testing.T) {
	for seed := range int64(150) {
		r := rand.New(rand.NewSource(seed))
		talkOf(r.Intn(100), r.Intn(100), r.Intn(100), seed).isWanted(t)
	}
	for seed := range int64(40) {
		r := rand.New(rand.NewSource(seed))
		talkOf(r.Intn(most+1), r.Intn(most+1), r.Intn(most+1), seed).isWanted(t)
	}
	for _, size := range [][3]int{{0, 0, 0}, {1, 0, 0}, {0, 1, 0}, {0, 0, 1}, {1, 1, 1}, {most, 0, 0}, {0, most, 0}, {0, 0, most}, {most, most, most}} {
		talkOf(size[0], size[1], size[2], 1).isWanted(t)
	}
	d := talkOf(0, 0, 0, 1)
	d.prologue, d.one, d.two = zeros(most), ones(most), zeros(most)
	d.isWanted(t)
}

// TestSameSecrets: nothing asks that they are unlike, not even those of both ends.
func TestSameSecrets(t *testing.T) {
	x, y := some(32, 1), some(32, 2)
	for i := range 16 {
		of := func(bit int) string { return []string{x, y}[i>>bit&1] }
		talk{of(0), of(1), of(2), of(3), "p", "abc", "xy"}.isWanted(t)
	}
}

// TestSealedByKeys: what is sealed by the one's Send opens by the other one's Recv,
// and not by the other key.
func TestSealedByKeys(t *testing.T) {
	for seed := range int64(20) {
		s := talkOf(3, 4, 5, seed).runs(t)
		for _, keys := range [][2]string{{s.forth, s.back}, {s.back, s.forth}} {
			c, _ := aead.Seal(keys[0], aead.Nonce(0), s.hash, "text")
			if text, err := aead.Open(keys[0], aead.Nonce(0), s.hash, c); text != "text" || err != api.OK {
				t.Errorf("seed %d: %q, %v", seed, text, err)
			}
			if _, err := aead.Open(keys[1], aead.Nonce(0), s.hash, c); err != api.ErrOpen {
				t.Errorf("seed %d: the other key: %v", seed, err)
			}
		}
	}
}

// TestAllHangsOnAll: each of what is handed in makes another hash, and each but the
// prologue and the payloads other keys.
func TestAllHangsOnAll(t *testing.T) {
	d := talkOf(2, 3, 4, 1)
	whole := d.runs(t)
	for i, change := range []func(d *talk){
		func(d *talk) { d.a = turned(d.a, 100) },
		func(d *talk) { d.b = turned(d.b, 100) },
		func(d *talk) { d.e = turned(d.e, 100) },
		func(d *talk) { d.f = turned(d.f, 100) },
		func(d *talk) { d.prologue = turned(d.prologue, 7) },
		func(d *talk) { d.one = turned(d.one, 7) },
		func(d *talk) { d.two = turned(d.two, 7) },
	} {
		other := d
		change(&other)
		s := other.runs(t)
		if s.hash == whole.hash || (s.forth == whole.forth) != (i > 3) || (s.back == whole.back) != (i > 3) {
			t.Errorf("change %d: %x, %x", i, s, whole)
		}
	}
}

// TestAgain: P16.3 and P16.4, Answer and Finish answer the same again, whatever was
// asked, or failed, between.
func TestAgain(t *testing.T) {
	d := talkOf(10, 20, 30, 1)
	h, message := d.begins(t)
	o := d.reads(t, message)
	second := d
	second.f, second.two = some(32, 9), some(most, 9)
	one, two := d.words(), second.words()
	for range 3 {
		answers(t, o, d.f, d.two, one.reply(), one.wantAnswered())
		answersNot(t, "31 bytes", o, d.f[1:], d.two, api.ErrArg)
		answersNot(t, "too long", o, d.f, zeros(most+1), api.ErrLong)
		answers(t, o, d.f, d.two, one.reply(), one.wantAnswered())
		answers(t, o, second.f, second.two, two.reply(), two.wantAnswered())

		finishes(t, h, one.reply(), one.wantFinished())
		finishesNot(t, "a byte turned", h, with(one.reply(), 40, 1), api.ErrOpen)
		finishesNot(t, "another key", h, with(one.reply(), 4, 1), api.ErrOpen)
		finishesNot(t, "a weak key", h, zeros(32)+one.sealedReply(), api.ErrWeak)
		finishesNot(t, "too short", h, one.reply()[:47], api.ErrShort)
		finishesNot(t, "too long", h, zeros(most+49), api.ErrLong)
		finishes(t, h, one.reply(), one.wantFinished())
		finishes(t, h, two.reply(), two.wantFinished())
	}
	again, same := d.begins(t)
	if same != message {
		t.Error("Begin answers otherwise")
	}
	finishes(t, again, one.reply(), one.wantFinished())
	answers(t, d.reads(t, message), d.f, d.two, one.reply(), one.wantAnswered())
}

// TestFailedFirst: a first call that fails leaves nothing behind.
func TestFailedFirst(t *testing.T) {
	d := talkOf(1, 2, 3, 1)
	w := d.words()
	for _, wrong := range []string{"", zeros(48), zeros(32) + w.sealedReply(), with(w.reply(), 0, 1), with(w.reply(), 47, 1), zeros(most + 49)} {
		h, _ := d.begins(t)
		if _, err := h.Finish(wrong); err == api.OK {
			t.Errorf("%x finishes", wrong)
		}
		finishes(t, h, w.reply(), w.wantFinished())
	}
	o := d.reads(t, w.message())
	answersNot(t, "no secret", o, "", d.two, api.ErrArg)
	answers(t, o, d.f, d.two, w.reply(), w.wantAnswered())
}

// TestTwoTalks: halves that are there at the same time know nothing of each other.
func TestTwoTalks(t *testing.T) {
	c, d := talkOf(4, 5, 6, 1), talkOf(6, 5, 4, 2)
	d.b = c.b // one that answers two
	ch, cm := c.begins(t)
	dh, dm := d.begins(t)
	co, do := c.reads(t, cm), d.reads(t, dm)
	cw, dw := c.words(), d.words()
	answers(t, do, d.f, d.two, dw.reply(), dw.wantAnswered())
	answers(t, co, c.f, c.two, cw.reply(), cw.wantAnswered())
	finishesNot(t, "the reply to another one", ch, dw.reply(), api.ErrOpen)
	finishesNot(t, "the reply to another one", dh, cw.reply(), api.ErrOpen)
	finishes(t, ch, cw.reply(), cw.wantFinished())
	finishes(t, dh, dw.reply(), dw.wantFinished())
}
