package noise_test

import (
	"isthmus/aead"
	"isthmus/api"
	"isthmus/blake"
	"isthmus/kdf"
	"isthmus/mont"
)

// What the chapter says, once more and in another way: nothing is carried from step to
// step, each h and each key is worked out from the beginning, of all that was mixed or
// added so far. What two share is always made by the secret of the end that does not
// make it in that step. mont, blake, kdf and aead are below both, so that a fault of
// theirs shows in TestVectors and the folds alone.

// words are all that a handshake is made of, as one who sees both ends has them: public
// keys, what each two share, and the rest.
type words struct {
	prologue              string
	first, other          string
	ephemeral, theirs     string // of the first one, of the other one
	es, ss, ee, se        string // e: by the ephemeral key, s: by the other one; the first one's stands first
	payload, replyPayload string
}

// said is what goes over the wire, and what comes of it: forth is the key by which the
// first one sends, back the other one's.
type said struct {
	message, reply    string
	forth, back, hash string
}

// talk is what two have ahead of a handshake: the secrets of the first one and of the
// other one, their ephemeral ones, what both know, and what each of them hands over.
type talk struct {
	a, b, e, f string
	prologue   string
	one, two   string
}

func wantPublic(secret string) string {
	p, err := mont.Public(secret)
	if err != api.OK {
		panic(err)
	}
	return p
}

func wantShared(secret, public string) string {
	s, err := mont.Shared(secret, public)
	if err != api.OK {
		panic(err)
	}
	return s
}

func wantChain(key, s string) (string, string) {
	texts, err := kdf.Chain(key, s, 2)
	if err != api.OK {
		panic(err)
	}
	return texts[0], texts[1]
}

// wantHash is h, once these are mixed.
func wantHash(mixed ...string) string {
	h := blake.Of("Noise_IK_25519_ChaChaPoly_BLAKE2s")
	for _, s := range mixed {
		h = blake.Of(h + s)
	}
	return h
}

// wantKeys are ck and k, once these are added.
func wantKeys(added ...string) (ck, k string) {
	ck = wantHash()
	for _, s := range added {
		ck, k = wantChain(ck, s)
	}
	return ck, k
}

func wantSealed(k, h, s string) string {
	c, err := aead.Seal(k, "\x00\x00\x00\x00\x00\x00\x00\x00\x00\x00\x00\x00", h, s)
	if err != api.OK {
		panic(err)
	}
	return c
}

func (d talk) words() words {
	w := words{
		prologue: d.prologue, payload: d.one, replyPayload: d.two,
		first: wantPublic(d.a), other: wantPublic(d.b), ephemeral: wantPublic(d.e), theirs: wantPublic(d.f),
	}
	w.es, w.ss = wantShared(d.b, w.ephemeral), wantShared(d.b, w.first)
	w.ee, w.se = wantShared(d.e, w.theirs), wantShared(d.a, w.theirs)
	return w
}

// sealedFirst is the first one's public key, sealed.
func (w words) sealedFirst() string {
	_, k := wantKeys(w.es)
	return wantSealed(k, wantHash(w.prologue, w.other, w.ephemeral), w.first)
}

func (w words) sealedPayload() string {
	_, k := wantKeys(w.es, w.ss)
	return wantSealed(k, wantHash(w.prologue, w.other, w.ephemeral, w.sealedFirst()), w.payload)
}

func (w words) message() string { return w.ephemeral + w.sealedFirst() + w.sealedPayload() }

func (w words) sealedReply() string {
	_, k := wantKeys(w.es, w.ss, w.ee, w.se)
	return wantSealed(k, wantHash(w.prologue, w.other, w.ephemeral, w.sealedFirst(), w.sealedPayload(), w.theirs), w.replyPayload)
}

func (w words) reply() string { return w.theirs + w.sealedReply() }

func (w words) said() said {
	ck, _ := wantKeys(w.es, w.ss, w.ee, w.se)
	s := said{message: w.message(), reply: w.reply()}
	s.forth, s.back = wantChain(ck, "")
	s.hash = wantHash(w.prologue, w.other, w.ephemeral, w.sealedFirst(), w.sealedPayload(), w.theirs, w.sealedReply())
	return s
}

// wantRead, wantAnswered and wantFinished are what the calls answer beside the bytes.
func (w words) wantRead() api.Got { return api.Got{Static: w.first, Payload: w.payload} }

func (w words) wantAnswered() api.Got {
	s := w.said()
	return api.Got{Static: w.first, Send: s.back, Recv: s.forth, Hash: s.hash}
}

func (w words) wantFinished() api.Got {
	s := w.said()
	return api.Got{Static: w.other, Payload: w.replyPayload, Send: s.forth, Recv: s.back, Hash: s.hash}
}

// wantFault is the first of these that is none.
func wantFault(faults ...api.Errno) api.Errno {
	for _, f := range faults {
		if f != api.OK {
			return f
		}
	}
	return api.OK
}

// ifSo is the error, if that holds.
func ifSo(holds bool, err api.Errno) api.Errno {
	if holds {
		return err
	}
	return api.OK
}
