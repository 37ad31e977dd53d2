package blake

import "math/bits"

const pieceSize = 64

// orders are those of the ten rounds in which the words of a piece come.
var orders = [10][16]uint8{
	{0, 1, 2, 3, 4, 5, 6, 7, 8, 9, 10, 11, 12, 13, 14, 15},
	{14, 10, 4, 8, 9, 15, 13, 6, 1, 12, 0, 2, 11, 7, 5, 3},
	{11, 8, 12, 0, 5, 2, 15, 13, 10, 14, 3, 6, 7, 1, 9, 4},
	{7, 9, 3, 1, 13, 12, 11, 14, 2, 6, 5, 10, 4, 0, 15, 8},
	{9, 0, 5, 7, 2, 4, 10, 15, 14, 1, 11, 12, 6, 8, 3, 13},
	{2, 12, 6, 10, 0, 11, 8, 3, 4, 13, 7, 5, 15, 14, 1, 9},
	{12, 5, 1, 15, 14, 13, 4, 10, 0, 7, 6, 3, 9, 2, 8, 11},
	{13, 11, 7, 14, 12, 1, 3, 9, 5, 0, 15, 4, 8, 6, 2, 10},
	{6, 15, 14, 9, 11, 3, 0, 8, 12, 2, 13, 7, 1, 4, 10, 5},
	{10, 2, 8, 4, 7, 6, 1, 5, 15, 11, 9, 14, 3, 12, 13, 0},
}

// firstWords are the first 32 bits behind the point of the square roots of the first eight primes.
func firstWords() [8]uint32 {
	return [8]uint32{
		0x6a09e667, 0xbb67ae85, 0x3c6ef372, 0xa54ff53a,
		0x510e527f, 0x9b05688c, 0x1f83d9ab, 0x5be0cd19,
	}
}

// mixed are the words behind one more piece, up to whose end there are count bytes.
func mixed(words [8]uint32, piece []byte, count uint64, last bool) [8]uint32 {
	m := wordsOf(piece)
	v := spreadOut(words, count, last)
	mix := func(x, y uint32, at ...int) {
		a, b, c, d := v[at[0]], v[at[1]], v[at[2]], v[at[3]]
		a += b + x
		d = turned(d^a, 16)
		c += d
		b = turned(b^c, 12)
		a += b + y
		d = turned(d^a, 8)
		c += d
		b = turned(b^c, 7)
		v[at[0]], v[at[1]], v[at[2]], v[at[3]] = a, b, c, d
	}
	for _, s := range orders {
		mix(m[s[0]], m[s[1]], 0, 4, 8, 12)
		mix(m[s[2]], m[s[3]], 1, 5, 9, 13)
		mix(m[s[4]], m[s[5]], 2, 6, 10, 14)
		mix(m[s[6]], m[s[7]], 3, 7, 11, 15)
		mix(m[s[8]], m[s[9]], 0, 5, 10, 15)
		mix(m[s[10]], m[s[11]], 1, 6, 11, 12)
		mix(m[s[12]], m[s[13]], 2, 7, 8, 13)
		mix(m[s[14]], m[s[15]], 3, 4, 9, 14)
	}
	for i := range words {
		words[i] ^= v[i] ^ v[8+i]
	}
	return words
}

// spreadOut are the sixteen words that a piece is mixed into.
func spreadOut(words [8]uint32, count uint64, last bool) [16]uint32 {
	var v [16]uint32
	first := firstWords()
	copy(v[:8], words[:])
	copy(v[8:], first[:])
	v[12] ^= uint32(count)
	v[13] ^= uint32(count >> 32)
	if last {
		v[14] = ^v[14]
	}
	return v
}

// wordsOf are the words of a piece, of each the lowest byte first; what a short piece lacks is 0.
func wordsOf(piece []byte) [pieceSize / 4]uint32 {
	var m [pieceSize / 4]uint32
	for i, b := range piece {
		m[i/4] |= uint32(b) << (i % 4 * 8)
	}
	return m
}

func turned(x uint32, by int) uint32 { return bits.RotateLeft32(x, -by) }

// lowestFirst are the bytes of words, of each the lowest one first.
func lowestFirst(words [8]uint32) string {
	out := make([]byte, 0, 4*len(words))
	for _, w := range words {
		out = append(out, byte(w), byte(w>>8), byte(w>>16), byte(w>>24))
	}
	return string(out)
}
