package chacha

import (
	"strings"
	"testing"
)

func TestTurns(t *testing.T) {
	if turns != [2][2]int{{16, 12}, {8, 7}} {
		t.Errorf("%v", turns)
	}
}

// TestMix: RFC 8439, 2.1.1 and 2.2.1.
func TestMix(t *testing.T) {
	w := words{0x11111111, 0x01020304, 0x9b8d6f43, 0x01234567}
	w.mix(0, 1, 2, 3)
	if w != (words{0xea2a92f4, 0xcb1cf8ce, 0x4581472e, 0x5881c4bb}) {
		t.Errorf("four words: %x", w)
	}
	w = words{
		0x879531e0, 0xc5ecf37d, 0x516461b1, 0xc9a62f8a,
		0x44c20ef3, 0x3390af7f, 0xd9fc690b, 0x2a5f714c,
		0x53372767, 0xb00a5631, 0x974c541a, 0x359e9963,
		0x5c971061, 0x3d631689, 0x2098d9d6, 0x91dbd320,
	}
	w.mix(2, 7, 8, 13)
	if w != (words{
		0x879531e0, 0xc5ecf37d, 0xbdb886dc, 0xc9a62f8a,
		0x44c20ef3, 0x3390af7f, 0xd9fc690b, 0xcfacafd2,
		0xe46bea80, 0xb00a5631, 0x974c541a, 0x359e9963,
		0x5c971061, 0xccc07c79, 0x2098d9d6, 0x91dbd320,
	}) {
		t.Errorf("four of sixteen words: %x", w)
	}
}

// upwards are so many bytes, from one on.
func upwards(count, from int) string {
	b := make([]byte, count)
	for i := range b {
		b[i] = byte(i + from)
	}
	return string(b)
}

// TestFirstWords: each part at its place, of each word the lowest byte first.
func TestFirstWords(t *testing.T) {
	w := firstWords(upwards(32, 0), upwards(12, 128), 0xa0b0c0d0)
	if w != (words{
		0x61707865, 0x3320646e, 0x79622d32, 0x6b206574,
		0x03020100, 0x07060504, 0x0b0a0908, 0x0f0e0d0c,
		0x13121110, 0x17161514, 0x1b1a1918, 0x1f1e1d1c,
		0xa0b0c0d0, 0x83828180, 0x87868584, 0x8b8a8988,
	}) {
		t.Errorf("%x", w)
	}
}

// TestBlocksFor: a block that is used in part is one, too.
func TestBlocksFor(t *testing.T) {
	for n := range 1000 {
		want := uint64(n / 64)
		if n%64 != 0 {
			want++
		}
		if got := blocksFor(strings.Repeat("x", n)); got != want {
			t.Errorf("%d bytes: %d blocks", n, got)
		}
	}
}

// TestStream: its places, its blocks, and that it may be left at each of them
// and ranged over again.
func TestStream(t *testing.T) {
	key, nonce := upwards(32, 1), upwards(12, 1)
	for _, n := range []uint32{0, 1, 1<<31 - 2, 1<<32 - 20} {
		all := stream(firstWords(key, nonce, n))
		for leave := 1; leave <= 20; leave++ {
			told := 0
			for at, b := range all {
				if at != 64*told || b != blockOf(firstWords(key, nonce, n+uint32(told))) {
					t.Fatalf("from %d on, block %d: place %d, %x", n, told, at, b)
				}
				told++
				if told == leave {
					break
				}
			}
			if told != leave {
				t.Fatalf("from %d on: %d blocks, not %d", n, told, leave)
			}
		}
	}
}
