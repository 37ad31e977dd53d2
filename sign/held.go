package sign

import (
	"isthmus/api"
	"isthmus/edw"
	"isthmus/order"
	"isthmus/sha"
)

// held is what a secret holds: its number, and what stands ahead of a text whose
// r is wanted.
type held struct {
	number order.Scalar
	prefix string
}

// heldBy is what the secret holds.
func heldBy(secret string) (h held, err api.Errno) {
	if len(secret) != size {
		return h, api.ErrArg
	}
	digest := sha.Of(secret)
	// Both halves of a digest have as many bytes as Clamp and Of ask for.
	clamped, _ := order.Clamp(digest[:size])
	h.number, _ = order.Of(clamped)
	h.prefix = digest[size:]
	return h, api.OK
}

// public are the bytes of the public point.
func (h held) public() string { return edw.Base().Mul(h.number).Bytes() }

// numberOf is the number of the texts, one behind the other.
func numberOf(texts ...string) order.Scalar {
	all := sha.New()
	for _, s := range texts {
		all.Add(s)
	}
	n, _ := order.Of(all.Sum()) // a digest's bytes are as many as Of asks for
	return n
}
