package poly

import "isthmus/api"

// pieceSize is how many bytes of a text are taken at once: as many as a tag has.
const pieceSize = api.Tag

// padded has the bytes of a number, the lowest first, with room for one behind
// them; those that are missing are 0.
type padded [pieceSize + 1]byte

// marked is the number of at most 16 bytes and a byte 1 behind them: without it,
// bytes 0 at the end would make no difference.
func marked(text []byte) number {
	var p padded
	p[copy(p[:], text)] = 1
	return numberOf(p)
}

// plain is the number of at most 16 bytes.
func plain(text string) number {
	var p padded
	copy(p[:], text)
	return numberOf(p)
}

// factor is the number of 16 bytes, without the bits that a number by which is
// multiplied may not have.
func factor(text string) number {
	var p padded
	copy(p[:], text)
	for i := 3; i < pieceSize; i += 4 {
		p[i] &= 1<<4 - 1
	}
	for i := 4; i < pieceSize; i += 4 {
		p[i] &^= 1<<2 - 1
	}
	return numberOf(p)
}
