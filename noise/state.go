package noise

import (
	"isthmus/aead"
	"isthmus/api"
	"isthmus/blake"
	"isthmus/kdf"
	"isthmus/mont"
)

const protocol = "Noise_IK_25519_ChaChaPoly_BLAKE2s"

// state is what both ends make alike of what was said so far.
type state struct {
	hash  string    // of all that was said; nothing, if no call of the package made it
	chain string    // of which the next keys are made
	key   string    // by which is sealed
	err   api.Errno // the first that went wrong; behind it nothing is added, sealed or opened
}

// begin makes the state with which both ends begin; public is the other one's key.
func (s *state) begin(prologue, public string) {
	s.hash = blake.Of(protocol)
	s.chain = s.hash
	s.mix(prologue)
	s.mix(public)
}

// made tells whether begin made it.
func (s *state) made() bool { return s.hash != "" }

func (s *state) mix(text string) { s.hash = blake.Of(s.hash + text) }

// public is the public key of a secret.
func (s *state) public(secret string) (public string) {
	if s.err == api.OK {
		public, s.err = mont.Public(secret)
	}
	return public
}

// show is the public key of an ephemeral secret, mixed.
func (s *state) show(secret string) string {
	public := s.public(secret)
	s.mix(public)
	return public
}

// add makes new keys of what a secret and the other one's public key share.
func (s *state) add(secret, public string) {
	if s.err != api.OK {
		return
	}
	shared, err := mont.Shared(secret, public)
	if err != api.OK {
		s.err = err
		return
	}
	s.chain, s.key = s.next(shared)
}

// seal seals by a key that add made for this text alone: so its number is 0, ever.
func (s *state) seal(text string) (sealed string) {
	if s.err == api.OK {
		sealed, s.err = aead.Seal(s.key, aead.Nonce(0), s.hash, text)
		s.mix(sealed)
	}
	return sealed
}

func (s *state) open(sealed string) (text string) {
	if s.err == api.OK {
		text, s.err = aead.Open(s.key, aead.Nonce(0), s.hash, sealed)
		s.mix(sealed)
	}
	return text
}

// next are both texts that the chain makes together with another one.
func (s *state) next(text string) (string, string) {
	texts, _ := kdf.Chain(s.chain, text, 2) // as many may be asked for
	return texts[0], texts[1]
}

// end is the first that went wrong, or OK. What may come behind it adds ahead of
// sealing, so that the key would be kept for nothing.
func (s *state) end() api.Errno {
	s.key = ""
	return s.err
}
