package kdf

import (
	"strings"
	"testing"
)

func TestBlock(t *testing.T) {
	for k := range 65 {
		key := strings.Repeat("k", k)
		if b := blockOf(key); string(b[:]) != key+strings.Repeat("\x00", 64-k) {
			t.Errorf("a key of %d bytes: %x", k, b)
		}
	}
}

func TestMaskedLeavesTheBlock(t *testing.T) {
	b := blockOf("key")
	before := b
	for _, mask := range []byte{0, 1, 54, 92, 255} {
		text := b.masked(mask)
		for i := range text {
			if text[i] != before[i]^mask {
				t.Fatalf("mask %d, byte %d: %d", mask, i, text[i])
			}
		}
		if b != before {
			t.Fatalf("mask %d changed the block", mask)
		}
	}
}

// TestTags: as many tags are made as are needed, and no more.
func TestTags(t *testing.T) {
	b := blockOf("key")
	for n := range 300 {
		if got, want := len(b.tags("info", n)), (n+31)/32*32; got != want {
			t.Errorf("%d bytes: %d are made, not %d", n, got, want)
		}
	}
	for i, text := 0, b.tags("info", 8160); i < 255; i++ {
		ahead := text[max(0, i-1)*32 : i*32]
		if text[i*32:(i+1)*32] != b.tag(ahead+"info"+string([]byte{byte(i + 1)})) {
			t.Fatalf("tag %d", i+1)
		}
	}
}
