package aead

import (
	"strings"

	"isthmus/api"
	"isthmus/chacha"
	"isthmus/poly"
)

const (
	pieceSize = 16 // texts are filled up to a multiple of it
	wordSize  = 8
)

// tagOf is the tag of an enciphered text and of ad. The key and the nonce have
// their sizes, so that no call here refuses them.
func tagOf(key, nonce, ad, c string) string {
	block, _ := chacha.Block(key, nonce, tagBlock)
	tag, _ := poly.Tag(block[:api.Key], joined(ad, c))
	return tag
}

// joined are the texts, each filled up by bytes 0, and then their lengths,
// without which bytes could go over from one text to the next.
func joined(texts ...string) string {
	var all, lengths strings.Builder
	for _, s := range texts {
		all.WriteString(s)
		for all.Len()%pieceSize != 0 {
			all.WriteByte(0)
		}
		lengths.WriteString(word(uint64(len(s))))
	}
	all.WriteString(lengths.String())
	return all.String()
}

// word has the bytes of n, the lowest first.
func word(n uint64) string {
	var b [wordSize]byte
	for i := range b {
		b[i] = byte(n >> (8 * i))
	}
	return string(b[:])
}
