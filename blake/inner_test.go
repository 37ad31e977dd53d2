package blake

import (
	"math/big"
	"math/rand"
	"slices"
	"strings"
	"testing"
)

func TestOrders(t *testing.T) {
	rows := strings.Fields("0123456789abcdef ea489fd61c02b753 b8c052fdae367194 7931dcbe265a40f8 905724afe1bc683d " +
		"2c6a0b834d75fe19 c51fed4a0763928b db7ec13950f4862a 6fe9b308c2d714a5 a2847615fb9e3cd0")
	if len(orders) != len(rows) {
		t.Fatalf("%d orders", len(orders))
	}
	for round, row := range rows {
		for i := range row {
			if got := rows[0][orders[round][i]]; got != row[i] {
				t.Errorf("round %d, place %d: got %c, want %c", round, i, got, row[i])
			}
		}
	}
}

func TestFirstWords(t *testing.T) {
	words := firstWords()
	for i, p := range []int64{2, 3, 5, 7, 11, 13, 17, 19} {
		root := new(big.Int).Sqrt(new(big.Int).Lsh(big.NewInt(p), 64))
		if words[i] != uint32(root.Uint64()) {
			t.Errorf("word %d is not of the square root of %d: %x", i, p, words[i])
		}
	}
}

func TestTurned(t *testing.T) {
	for _, x := range []uint32{0, 1, 1 << 31, 1<<32 - 1, 0x12345678, 0xdeadbeef} {
		for by := range 32 {
			if got, want := turned(x, by), x>>by|x<<(32-by); got != want {
				t.Errorf("%x by %d: got %x, want %x", x, by, got, want)
			}
		}
	}
}

// TestSpreadOut: counts of bytes that no test has the room for, and the last piece's mark.
func TestSpreadOut(t *testing.T) {
	r := rand.New(rand.NewSource(1))
	first := firstWords()
	for _, count := range []uint64{0, 1, 64, 1<<31 - 1, 1 << 31, 1<<32 - 1, 1 << 32, 1<<32 + 1, 0x0123456789abcdef, 1<<64 - 1} {
		var words [8]uint32
		for i := range words {
			words[i] = r.Uint32()
		}
		for _, last := range []bool{false, true} {
			var want [16]uint32
			for i := range 8 {
				want[i], want[8+i] = words[i], first[i]
			}
			want[12] ^= uint32(count % (1 << 32))
			want[13] ^= uint32(count / (1 << 32))
			if last {
				want[14] ^= 0xffffffff
			}
			if got := spreadOut(words, count, last); got != want {
				t.Errorf("%d bytes, last %v: got %x, want %x", count, last, got, want)
			}
		}
	}
}

func TestWordsOf(t *testing.T) {
	b := make([]byte, pieceSize)
	for i := range b {
		b[i] = byte(i + 1)
	}
	for n := range pieceSize + 1 {
		for i, got := range wordsOf(b[:n]) {
			want := uint32(0)
			for j := 3; j >= 0; j-- {
				want *= 256
				if 4*i+j < n {
					want += uint32(4*i + j + 1)
				}
			}
			if got != want {
				t.Errorf("%d bytes, word %d: got %x, want %x", n, i, got, want)
			}
		}
	}
}

func TestLowestFirst(t *testing.T) {
	got := lowestFirst([8]uint32{0x04030201, 0xf4f3f2f1, 0, 1, 0xffffffff, 0x80000000, 2, 3})
	want := "\x01\x02\x03\x04\xf1\xf2\xf3\xf4\x00\x00\x00\x00\x01\x00\x00\x00\xff\xff\xff\xff\x00\x00\x00\x80\x02\x00\x00\x00\x03\x00\x00\x00"
	if got != want {
		t.Errorf("got %x, want %x", got, want)
	}
}

// TestSumLeavesAll: Sum changes nothing that is kept.
func TestSumLeavesAll(t *testing.T) {
	for _, key := range []string{"", "k"} {
		h, _ := New(32, key)
		for n := range 300 {
			kept, all := *h, slices.Clone(h.waits[:cap(h.waits)])
			h.Sum()
			same := h.size == kept.size && h.words == kept.words && h.count == kept.count && len(h.waits) == len(kept.waits)
			if !same || !slices.Equal(all, h.waits[:cap(h.waits)]) {
				t.Fatalf("%d bytes: Sum changed the hash", n)
			}
			h.Add("x")
		}
	}
}

// TestWaitsForMore: a whole piece waits, as it may be the last one; no more than that is ever kept.
func TestWaitsForMore(t *testing.T) {
	h, _ := New(32, "")
	for n := range 1000 {
		wait := 0
		if n > 0 {
			wait = (n-1)%pieceSize + 1
		}
		if len(h.waits) != wait || h.count != uint64(n-wait) || cap(h.waits) > pieceSize {
			t.Fatalf("%d bytes: %d wait, of %d; %d went", n, len(h.waits), cap(h.waits), h.count)
		}
		h.Add("x")
	}
	h.Add(strings.Repeat("x", 1<<16))
	if cap(h.waits) > pieceSize {
		t.Errorf("room for %d bytes", cap(h.waits))
	}
}

// TestNoneStaysNone: what New did not make is as it was, behind Add and Sum.
func TestNoneStaysNone(t *testing.T) {
	var h Hash
	h.Add(strings.Repeat("x", 200))
	h.Sum()
	if h.size != 0 || h.count != 0 || h.words != [8]uint32{} || h.waits != nil {
		t.Errorf("%+v", h)
	}
}
