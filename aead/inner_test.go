package aead

import (
	"strings"
	"testing"

	"isthmus/api"
)

func TestJoined(t *testing.T) {
	one, two, three := "\x01\x00\x00\x00\x00\x00\x00\x00", "\x02\x00\x00\x00\x00\x00\x00\x00", "\x03\x00\x00\x00\x00\x00\x00\x00"
	none, sixteen := strings.Repeat("\x00", 8), "\x10\x00\x00\x00\x00\x00\x00\x00"
	zeros, whole := strings.Repeat("\x00", 16), "0123456789abcdef"
	for _, v := range []struct {
		texts []string
		want  string
	}{
		{nil, ""},
		{[]string{""}, none},
		{[]string{"", ""}, none + none},
		{[]string{"a", ""}, "a" + zeros[1:] + one + none},
		{[]string{"", "ab"}, "ab" + zeros[2:] + none + two},
		{[]string{"a", "ab"}, "a" + zeros[1:] + "ab" + zeros[2:] + one + two},
		{[]string{whole, whole}, whole + whole + sixteen + sixteen},
		{[]string{whole[1:], whole}, whole[1:] + "\x00" + whole + "\x0f" + none[1:] + sixteen},
		{[]string{whole + "a", "abc"}, whole + "a" + zeros[1:] + "abc" + zeros[3:] + "\x11" + none[1:] + three},
		{[]string{"a", "ab", "abc"}, "a" + zeros[1:] + "ab" + zeros[2:] + "abc" + zeros[3:] + one + two + three},
	} {
		if got := joined(v.texts...); got != v.want {
			t.Errorf("%q: got %x, want %x", v.texts, got, v.want)
		}
	}
}

func TestWord(t *testing.T) {
	for _, v := range []struct {
		n    uint64
		want string
	}{
		{0, "\x00\x00\x00\x00\x00\x00\x00\x00"},
		{258, "\x02\x01\x00\x00\x00\x00\x00\x00"},
		{1<<64 - 1, "\xff\xff\xff\xff\xff\xff\xff\xff"},
		{0x0102030405060708, "\x08\x07\x06\x05\x04\x03\x02\x01"},
	} {
		if got := word(v.n); got != v.want {
			t.Errorf("%x: %x", v.n, got)
		}
	}
}

// TestConstants: what the package counts on, where api has no name for it.
func TestConstants(t *testing.T) {
	if pieceSize != api.Tag || nonceSize != 12 || tagBlock != 0 || textBlock != 1 {
		t.Error("a size, or a block's number")
	}
}
