package sign

import (
	"strings"
	"testing"

	"isthmus/api"
	"isthmus/order"
	"isthmus/sha"
)

// TestNumberOf: it hangs on the bytes alone, not on how they are cut.
func TestNumberOf(t *testing.T) {
	whole := "what is said, and signed"
	want, _ := order.Of(sha.Of(whole))
	for i := range len(whole) {
		for j := i; j < len(whole); j++ {
			if !numberOf(whole[:i], whole[i:j], whole[j:]).Same(want) {
				t.Errorf("cut at %d and %d", i, j)
			}
		}
	}
	if !numberOf(strings.Split(whole, "")...).Same(want) || !numberOf(whole).Same(want) || !numberOf("", whole, "").Same(want) {
		t.Error("cut otherwise")
	}
	none, _ := order.Of(sha.Of(""))
	if !numberOf().Same(none) || !numberOf("").Same(none) || !numberOf("", "").Same(none) {
		t.Error("no bytes")
	}
	if numberOf("a", "b").Same(numberOf("b", "a")) {
		t.Error("the order of texts")
	}
}

func TestHeldBy(t *testing.T) {
	for n := range 100 {
		secret := strings.Repeat("\xa5", n)
		h, err := heldBy(secret)
		if n != 32 {
			if h != (held{}) || err != api.ErrArg {
				t.Errorf("%d bytes: %x, %v", n, h.prefix, err)
			}
			continue
		}
		digest := []byte(sha.Of(secret))
		digest[0] &= 0xf8
		digest[31] = digest[31]&0x7f | 0x40
		number, _ := order.Of(string(digest[:32]))
		if err != api.OK || !h.number.Same(number) || h.prefix != string(digest[32:]) {
			t.Errorf("%x, %x, %v", h.number.Bytes(), h.prefix, err)
		}
	}
}

func BenchmarkSign(b *testing.B) {
	secret := strings.Repeat("k", size)
	for b.Loop() {
		Sign(secret, "text")
	}
}

func BenchmarkVerify(b *testing.B) {
	secret := strings.Repeat("k", size)
	public, _ := Public(secret)
	signature, _ := Sign(secret, "text")
	for b.Loop() {
		Verify(public, "text", signature)
	}
}
