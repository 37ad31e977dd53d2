package blake_test

import (
	"encoding/binary"
	"encoding/hex"
	"math/big"
	"math/bits"
	"strings"
)

// What the chapter's section 'Words' says, once more and in another way: over a
// whole text, with roots by math/big and orders by their digits. TestFolded and
// TestVectors hold the package against sums from elsewhere.

const orderDigits = "0123456789abcdef ea489fd61c02b753 b8c052fdae367194 7931dcbe265a40f8 905724afe1bc683d " +
	"2c6a0b834d75fe19 c51fed4a0763928b db7ec13950f4862a 6fe9b308c2d714a5 a2847615fb9e3cd0"

var roots = func() []uint32 {
	var out []uint32
	for _, p := range []int64{2, 3, 5, 7, 11, 13, 17, 19} {
		root := new(big.Int).Sqrt(new(big.Int).Lsh(big.NewInt(p), 64))
		out = append(out, uint32(root.Uint64()))
	}
	return out
}()

func wantMix(a, b, c, d *uint32, x, y uint32) {
	*a += *b + x
	*d = bits.RotateLeft32(*d^*a, 32-16)
	*c += *d
	*b = bits.RotateLeft32(*b^*c, 32-12)
	*a += *b + y
	*d = bits.RotateLeft32(*d^*a, 32-8)
	*c += *d
	*b = bits.RotateLeft32(*b^*c, 32-7)
}

func wantDigit(digit byte) int { return strings.IndexByte("0123456789abcdef", digit) }

func wantRound(v *[16]uint32, m [16]uint32, digits string) {
	for i := range 8 {
		row := [4]int{i, 4 + i, 8 + i, 12 + i}
		if i >= 4 {
			row = [4]int{i - 4, 4 + (i-3)%4, 8 + (i-2)%4, 12 + (i-1)%4}
		}
		x, y := wantDigit(digits[2*i]), wantDigit(digits[2*i+1])
		wantMix(&v[row[0]], &v[row[1]], &v[row[2]], &v[row[3]], m[x], m[y])
	}
}

// want is the sum of a size and a key of s.
func want(size int, key, s string) string {
	h := append([]uint32{}, roots...)
	h[0] ^= 16842752 ^ uint32(256*len(key)) ^ uint32(size)
	if key != "" {
		s = key + strings.Repeat("\x00", 64-len(key)) + s
	}
	for at := 0; at == 0 || at < len(s); at += 64 {
		end := min(at+64, len(s))
		var piece [64]byte
		copy(piece[:], s[at:end])
		var m, v [16]uint32
		binary.Decode(piece[:], binary.LittleEndian, &m)
		copy(v[:], append(append([]uint32{}, h...), roots...))
		v[12] ^= uint32(end)
		if end == len(s) {
			v[14] ^= 1<<32 - 1
		}
		for _, digits := range strings.Fields(orderDigits) {
			wantRound(&v, m, digits)
		}
		for i := range h {
			h[i] ^= v[i] ^ v[8+i]
		}
	}
	out, _ := binary.Append(nil, binary.LittleEndian, h)
	return string(out[:size])
}

// unhex are the bytes of hexadecimal digits.
func unhex(digits string) string {
	b, err := hex.DecodeString(digits)
	if err != nil {
		panic(err)
	}
	return string(b)
}
