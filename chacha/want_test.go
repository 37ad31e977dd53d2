package chacha_test

import "encoding/binary"

// What the chapter's section 'Words' says, once more and in another way: the
// words are four rows of four, whose columns alone are mixed; for the diagonals
// the rows are shifted, and shifted back. TestVectors and TestFolded hold the
// package against bytes from elsewhere.

type row [4]uint64

func (r row) plus(s row) row {
	for i := range r {
		r[i] = (r[i] + s[i]) % (1 << 32)
	}
	return r
}

func (r row) xor(s row) row {
	for i := range r {
		r[i] ^= s[i]
	}
	return r
}

// turned puts what leaves a word above back below.
func (r row) turned(by int) row {
	for i := range r {
		wide := r[i] << by
		r[i] = wide%(1<<32) + wide>>32
	}
	return r
}

func (r row) shifted(by int) row {
	return row{r[by%4], r[(by+1)%4], r[(by+2)%4], r[(by+3)%4]}
}

func wantColumns(a, b, c, d row) (row, row, row, row) {
	a = a.plus(b)
	d = d.xor(a).turned(16)
	c = c.plus(d)
	b = b.xor(c).turned(12)
	a = a.plus(b)
	d = d.xor(a).turned(8)
	c = c.plus(d)
	b = b.xor(c).turned(7)
	return a, b, c, d
}

func wantBlock(key, nonce string, n uint32) string {
	text := append([]byte("expand 32-byte k"+key), byte(n), byte(n>>8), byte(n>>16), byte(n>>24))
	text = append(text, nonce...)
	var first [4]row
	for i := range 16 {
		first[i/4][i%4] = uint64(binary.LittleEndian.Uint32(text[4*i:]))
	}
	a, b, c, d := first[0], first[1], first[2], first[3]
	for range 10 {
		a, b, c, d = wantColumns(a, b, c, d)
		a, b, c, d = wantColumns(a, b.shifted(1), c.shifted(2), d.shifted(3))
		b, c, d = b.shifted(3), c.shifted(2), d.shifted(1)
	}
	var out []byte
	for i, r := range []row{a, b, c, d} {
		for _, w := range r.plus(first[i]) {
			out = binary.LittleEndian.AppendUint32(out, uint32(w))
		}
	}
	return string(out)
}

// wantTurned asks for the block of each byte by itself.
func wantTurned(key, nonce string, n uint32, s string) string {
	blocks := map[int]string{}
	out := []byte(s)
	for i := range out {
		if blocks[i/64] == "" {
			blocks[i/64] = wantBlock(key, nonce, n+uint32(i/64))
		}
		out[i] ^= blocks[i/64][i%64]
	}
	return string(out)
}
