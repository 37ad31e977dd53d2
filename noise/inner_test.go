package noise

import (
	"strings"
	"testing"

	"isthmus/aead"
	"isthmus/api"
	"isthmus/blake"
	"isthmus/kdf"
	"isthmus/mont"
)

var (
	zero   = strings.Repeat("\x00", 32)
	secret = strings.Repeat("s", 32)
	public = keyOf(strings.Repeat("o", 32))
)

func keyOf(secret string) string {
	p, err := mont.Public(secret)
	if err != api.OK {
		panic(err)
	}
	return p
}

// begun is a state that has a key.
func begun() state {
	var s state
	s.begin("p", public)
	s.add(secret, public)
	return s
}

func TestBegin(t *testing.T) {
	var s state
	if s.made() {
		t.Error("a state that nobody made")
	}
	s.begin("p", "k")
	name := blake.Of("Noise_IK_25519_ChaChaPoly_BLAKE2s")
	if want := (state{hash: blake.Of(blake.Of(name+"p") + "k"), chain: name}); s != want || !s.made() {
		t.Errorf("got %#v, want %#v", s, want)
	}
	if len(protocol) != 33 {
		t.Error("not 33 bytes")
	}
}

// TestSteps: each step of the chapter, by itself.
func TestSteps(t *testing.T) {
	s := begun()
	shared, _ := mont.Shared(secret, public)
	texts, _ := kdf.Chain(blake.Of(protocol), shared, 2)
	if s.chain != texts[0] || s.key != texts[1] || s.err != api.OK {
		t.Errorf("add: %#v", s)
	}
	sealer, opener := s, s
	sealed := sealer.seal("text")
	if want, _ := aead.Seal(s.key, aead.Nonce(0), s.hash, "text"); sealed != want || sealer.hash != blake.Of(s.hash+want) {
		t.Errorf("seal: %x, %#v", sealed, sealer)
	}
	if text := opener.open(sealed); text != "text" || opener != sealer {
		t.Errorf("open: %x, %#v", text, opener)
	}
	shower := s
	if p := shower.show(secret); p != keyOf(secret) || shower.hash != blake.Of(s.hash+p) || shower.chain != s.chain {
		t.Errorf("show: %x, %#v", p, shower)
	}
}

// TestTheErrorSticks: behind the first error the steps do nothing, and no other takes
// its place.
func TestTheErrorSticks(t *testing.T) {
	for _, c := range []struct {
		fails func(s *state)
		want  api.Errno
	}{
		{func(s *state) { s.add(secret, zero) }, api.ErrWeak},
		{func(s *state) { s.open(zero) }, api.ErrOpen},
		{func(s *state) { s.add(secret, "") }, api.ErrArg},
		{func(s *state) { s.public("") }, api.ErrArg},
	} {
		s := begun()
		chain, key := s.chain, s.key
		c.fails(&s)
		if s.err != c.want || s.chain != chain || s.key != key {
			t.Errorf("%v, want %v", s.err, c.want)
		}
		hash := s.hash
		right, _ := aead.Seal(s.key, aead.Nonce(0), s.hash, "text")
		s.add(secret, public)
		s.add(secret, zero)
		s.add(secret, "")
		if s.seal("text") != "" || s.open(right) != "" || s.open(zero) != "" || s.public(secret) != "" {
			t.Errorf("%v: a step answers", c.want)
		}
		if s.err != c.want || s.chain != chain || s.key != key || s.hash != hash || s.end() != c.want {
			t.Errorf("%v, want %v: %#v", s.err, c.want, s)
		}
	}
}

// TestEnd: what is kept between two calls has no key, and no error.
func TestEnd(t *testing.T) {
	s := begun()
	want := state{hash: s.hash, chain: s.chain}
	if err := s.end(); err != api.OK || s != want {
		t.Errorf("%#v, %v", s, err)
	}
	h, message, _ := Begin(secret, public, secret, "p", "abc")
	o, _, _ := Read(strings.Repeat("o", 32), "p", message)
	if h.key != "" || o.key != "" || h.err != api.OK || h.state != o.state {
		t.Errorf("%#v, %#v", h.state, o.state)
	}
	half, other := *h, *o
	reply, _, _ := o.Answer(secret, "xy")
	h.Finish(reply)
	h.Finish(zero + zero)
	if *h != half || *o != other {
		t.Error("Answer or Finish changes what is kept")
	}
}

// TestWeakAnswer: P16.3, ErrWeak; Read makes no Other of weak keys, so that none but
// this one has them.
func TestWeakAnswer(t *testing.T) {
	for _, o := range []*Other{{first: zero, ephemeral: public}, {first: public, ephemeral: zero}, {first: zero, ephemeral: zero}} {
		o.begin("p", public)
		for _, c := range []struct {
			ephemeral, payload string
			want               api.Errno
		}{
			{secret, "xy", api.ErrWeak}, {secret, strings.Repeat("x", api.MaxPayload), api.ErrWeak},
			{secret[1:], "xy", api.ErrArg}, {secret, strings.Repeat("x", api.MaxPayload+1), api.ErrLong},
		} {
			if reply, got, err := o.Answer(c.ephemeral, c.payload); reply != "" || got != (api.Got{}) || err != c.want {
				t.Errorf("%x, %x, %v, want %v", reply, got, err, c.want)
			}
		}
	}
}

// TestConstants: the sizes that the chapter tells as numbers.
func TestConstants(t *testing.T) {
	if leastMessage != 96 || leastReply != 48 || payloadAt != 80 || api.MaxPayload != 4096 {
		t.Error("a size")
	}
}

func BenchmarkHandshake(b *testing.B) {
	for b.Loop() {
		h, message, _ := Begin(secret, public, secret, "p", "abc")
		o, _, _ := Read(strings.Repeat("o", 32), "p", message)
		reply, _, _ := o.Answer(secret, "xy")
		h.Finish(reply)
	}
}
