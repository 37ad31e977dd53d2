package netmap

import (
	"reflect"
	"strings"
	"testing"

	"isthmus/api"
)

// TestLists: what a list may be is told of its length, of each, and of neighbours.
func TestLists(t *testing.T) {
	below := func(n int) func(int) bool { return func(x int) bool { return x < n } }
	less := func(a, b int) bool { return a < b }
	for _, c := range []struct {
		list              []int
		all, rising, once bool
	}{
		{nil, true, true, true}, {[]int{1}, true, true, true}, {[]int{9}, false, true, true}, {[]int{1, 2, 3}, true, true, true}, {[]int{1, 2, 3, 4}, false, true, true},
		{[]int{1, 1}, true, false, false}, {[]int{2, 1}, true, false, true}, {[]int{1, 3, 2}, true, false, true}, {[]int{1, 2, 1}, true, false, false},
		{[]int{1, 2, 9}, false, true, true}, {[]int{9, 1, 2}, false, false, true}, {[]int{1, 2, 2}, true, false, false},
	} {
		if all(c.list, 3, below(9)) != c.all || rising(c.list, less) != c.rising || once(c.list) != c.once {
			t.Errorf("%v: %v, %v, %v", c.list, all(c.list, 3, below(9)), rising(c.list, less), once(c.list))
		}
	}
}

// TestListEnds: behind a fault no more is read, however many a list tells of.
func TestListEnds(t *testing.T) {
	for _, c := range []struct {
		rest  string
		calls int
	}{{"", 1}, {"\x04\x01\x02\x03\x04", 2}, {"\x05", 1}, {"\x04\x01\x02\x03\x04\x07\x04\x01\x02\x03\x04", 2}} {
		r := newReader("\xff\xff" + c.rest)
		calls := 0
		readList(r, func(r *reader) api.Addr {
			calls++
			return readAddr(r)
		})
		if calls != c.calls || r.sound() || !r.faulty() {
			t.Errorf("%x: %d calls, %v, %v", c.rest, calls, r.sound(), r.faulty())
		}
	}
	r := newReader("")
	r.U8()
	if l := readList(r, readEnd); l != nil {
		t.Errorf("behind a fault: %v", l)
	}
}

// TestListBack: what is written is read, by whatever one is told.
func TestListBack(t *testing.T) {
	for _, l := range [][]string{nil, {""}, {"a", "", "bc"}, make([]string, 300)} {
		r := newReader(writeList(l, writeText))
		if got := readList(r, readText); len(got) != len(l) || len(l) > 0 && !reflect.DeepEqual(got, l) || !r.sound() {
			t.Errorf("%q, and back: %q", l, got)
		}
	}
	keys := []string{strings.Repeat("a", 32), strings.Repeat("b", 32)}
	s := writeList(keys, writeAsIs)
	if s != "\x00\x02"+keys[0]+keys[1] || !reflect.DeepEqual(readList(newReader(s), readKey), keys) {
		t.Errorf("keys: %q", s)
	}
}

// TestParts: what a delta may have, and has not.
func TestParts(t *testing.T) {
	if writePart(false, "abc") != "\x00" || writePart(true, "abc") != "\x01abc" || writePart(true, "") != "\x01" {
		t.Error("writePart")
	}
	for x := range 256 {
		r := newReader(string([]byte{byte(x)}))
		if has := readHas(r); has != (x == 1) || r.sound() != (x < 2) {
			t.Errorf("a byte of %d: %v, %v", x, has, r.sound())
		}
	}
}

// TestTake: of a holder at an error only that it wants a map becomes another thing.
func TestTake(t *testing.T) {
	h, _ := New(strings.Repeat("k", 32))
	m := api.Map{Version: 7, Policy: "#"}
	if err := h.take(m, api.OK); err != api.OK || !reflect.DeepEqual(*h, Holder{public: h.public, held: held{m: m}}) {
		t.Errorf("a map: %v, %v", *h, err)
	}
	if err := h.take(api.Map{Version: 8}, api.ErrGap); err != api.ErrGap || !reflect.DeepEqual(*h, Holder{public: h.public, held: held{m: m, wants: true}}) {
		t.Errorf("an error: %v, %v", *h, err)
	}
}
