package code_test

import (
	"encoding/binary"
	"fmt"
	"math"
	"math/rand"
	"strings"
	"testing"

	"isthmus/api"
	"isthmus/code"
)

// stepped are so many bytes, from one on by a step.
func stepped(count, step, from int) string {
	b := make([]byte, count)
	for i := range b {
		b[i] = byte(i*step + from)
	}
	return string(b)
}

// some are so many bytes, the same ones in every run.
func some(count int, seed int64) string {
	b := make([]byte, count)
	rand.New(rand.NewSource(seed)).Read(b)
	return string(b)
}

func text(t *testing.T, s string) string {
	t.Helper()
	out, err := code.Text(s)
	if err != api.OK {
		t.Fatalf("Text of %d bytes: %v", len(s), err)
	}
	return out
}

// isAt holds what a reader says of itself against what is wanted.
func isAt(t *testing.T, what string, r *code.Reader, left int, fault, end api.Errno) {
	t.Helper()
	if r.Left() != left || r.Fault() != fault || r.End() != end {
		t.Errorf("%s: %d left, %v, at the end %v; want %d, %v, %v", what, r.Left(), r.Fault(), r.End(), left, fault, end)
	}
}

// isRow holds the answers of a row of calls, and what the reader is behind them,
// against the model.
func isRow(t *testing.T, s string, row ...step) {
	t.Helper()
	r, m := code.New(s), &model{all: s}
	for i, c := range row {
		if got, want := c.got(r), c.want(m); got != want {
			t.Fatalf("%x, %s: got %#v, want %#v", s, names(row[:i+1]), got, want)
		}
	}
	if r.Left() != m.left() || r.Fault() != m.fault || r.End() != m.end() {
		t.Fatalf("%x, %s: %d left, %v, at the end %v; want %d, %v, %v", s, names(row), r.Left(), r.Fault(), r.End(), m.left(), m.fault, m.end())
	}
}

func names(row []step) string {
	var out []string
	for _, c := range row {
		out = append(out, c.name)
	}
	return strings.Join(out, ", ")
}

// inEveryOrder tells all rows of so many of the calls, any of them as often as may be.
func inEveryOrder(count int, tell func(row []step)) {
	all := allSteps()
	row := make([]step, count)
	var fill func(at int)
	fill = func(at int) {
		if at == count {
			tell(row)
			return
		}
		for _, c := range all {
			row[at] = c
			fill(at + 1)
		}
	}
	fill(0)
}

func TestExamples(t *testing.T) {
	if s := code.U16(258); s != "\x01\x02" {
		t.Errorf("U16: %x", s)
	}
	if s := code.U32(1); s != "\x00\x00\x00\x01" {
		t.Errorf("U32: %x", s)
	}
	if s := text(t, "ab"); s != "\x00\x02ab" {
		t.Errorf("Text: %x", s)
	}
	r := code.New("\x00\x02\x61\x62")
	if s := r.Text(); s != "ab" {
		t.Errorf("Text: %x", s)
	}
	isAt(t, "a text", r, 0, api.OK, api.OK)
	r = code.New("\xff\xff")
	if s := r.Text(); s != "" {
		t.Errorf("Text: %x", s)
	}
	isAt(t, "a long text", r, 2, api.ErrLong, api.ErrLong)
	r = code.New("\x00")
	if x := r.U16(); x != 0 || r.Fault() != api.ErrShort {
		t.Errorf("U16: %d, %v", x, r.Fault())
	}
	if x := r.U8(); x != 0 {
		t.Errorf("U8: %d", x)
	}
	isAt(t, "one byte", r, 1, api.ErrShort, api.ErrShort)
}

// numbers are the least and the greatest ones of all widths, those around each
// power of 2, of one byte each, and some others.
func numbers() []uint64 {
	out := []uint64{0, math.MaxUint8, math.MaxUint16, math.MaxUint32, math.MaxUint64, 0x0102030405060708, 0xf8f7f6f5f4f3f2f1}
	for bit := range 64 {
		out = append(out, 1<<bit-1, 1<<bit, 1<<bit+1, ^uint64(1<<bit))
	}
	for place := range 8 {
		for b := range uint64(256) {
			out = append(out, b<<(8*place))
		}
	}
	r := rand.New(rand.NewSource(1))
	for range 5000 {
		out = append(out, r.Uint64()>>r.Intn(64))
	}
	return out
}

// isNumber: P12.1, what is written; P12.2, that it is read as itself.
func isNumber(t *testing.T, x uint64) {
	t.Helper()
	b := binary.BigEndian.AppendUint64(nil, x)
	if s := code.U64(x); s != string(b) {
		t.Errorf("U64(%#x): %x", x, s)
	}
	if s := code.U32(uint32(x)); s != string(b[4:]) {
		t.Errorf("U32(%#x): %x", uint32(x), s)
	}
	if s := code.U16(uint16(x)); s != string(b[6:]) {
		t.Errorf("U16(%#x): %x", uint16(x), s)
	}
	r := code.New(string(b) + string(b[4:]) + string(b[6:]) + string(b[7:]))
	if y := r.U64(); y != x {
		t.Errorf("%#x as U64: %#x", x, y)
	}
	if y := r.U32(); y != uint32(x) {
		t.Errorf("%#x as U32: %#x", uint32(x), y)
	}
	if y := r.U16(); y != uint16(x) {
		t.Errorf("%#x as U16: %#x", uint16(x), y)
	}
	if y := r.U8(); y != uint8(x) {
		t.Errorf("%#x as U8: %#x", uint8(x), y)
	}
	isAt(t, "numbers", r, 0, api.OK, api.OK)
}

func TestNumbers(t *testing.T) {
	for _, x := range numbers() {
		isNumber(t, x)
	}
	for x := range 1 << 16 {
		if s := code.U16(uint16(x)); s != string([]byte{byte(x / 256), byte(x % 256)}) {
			t.Errorf("U16(%d): %x", x, s)
		}
		if y := code.New(string([]byte{byte(x / 256), byte(x % 256)})).U16(); int(y) != x {
			t.Errorf("%d as U16: %d", x, y)
		}
	}
}

// TestText: P12.1, texts of every small length, up to the bound and beyond it,
// such too as have a small number of bytes beyond 2^16.
func TestText(t *testing.T) {
	sizes := []int{1023, 1024, 4096, 32766, 32767, 32768}
	for n := range 700 {
		sizes = append(sizes, n)
	}
	for _, n := range sizes {
		for _, s := range []string{strings.Repeat("\x00", n), strings.Repeat("\xff", n), stepped(n, 7, n)} {
			want := string([]byte{byte(n / 256), byte(n % 256)}) + s
			if got := text(t, s); got != want {
				t.Errorf("%d bytes: got %d that begin with %x", n, len(got), got[:min(len(got), 8)])
			}
			r := code.New(want)
			if got := r.Text(); got != s {
				t.Errorf("%d bytes: read as %d", n, len(got))
			}
			isAt(t, "a text", r, 0, api.OK, api.OK)
		}
	}
	for _, n := range []int{32769, 32770, 40000, 65535, 65536, 65537, 65540, 65536 + 32768, 1 << 17, 1 << 20} {
		if got, err := code.Text(stepped(n, 7, n)); got != "" || err != api.ErrLong {
			t.Errorf("%d bytes: %d bytes, %v", n, len(got), err)
		}
	}
	if api.MaxBytes != 32768 {
		t.Errorf("a bound of %d", api.MaxBytes)
	}
}

// TestSmallLengths: P12.2 and P12.3, texts of every small length, rows of calls in
// every order.
func TestSmallLengths(t *testing.T) {
	for count := range 5 {
		inEveryOrder(count, func(row []step) {
			for n := range 21 {
				isRow(t, stepped(n, 37, 0x91), row...) // no text: the numbers are long, most of them
				isRow(t, strings.Repeat("\x00\x03\x80", 7)[:n], row...)
			}
		})
	}
}

// TestSmallBytes: all texts of up to four bytes that numbers of texts begin and end
// with, at, next to and far from the bound.
func TestSmallBytes(t *testing.T) {
	texts := []string{""}
	for from := 0; len(texts[from]) < 4; from++ {
		for _, b := range []byte{0x00, 0x01, 0x02, 0x7f, 0x80, 0xff} {
			texts = append(texts, texts[from]+string([]byte{b}))
		}
	}
	for count := range 4 {
		inEveryOrder(count, func(row []step) {
			for _, s := range texts {
				isRow(t, s, row...)
			}
		})
	}
}

// TestLongRows: rows of many calls, with texts that are there among them.
func TestLongRows(t *testing.T) {
	r := rand.New(rand.NewSource(2))
	for seed := range int64(30000) {
		s := []byte(some(r.Intn(160), seed))
		for at := 0; at+1 < len(s); at += 1 + r.Intn(6) {
			s[at], s[at+1] = 0, byte(r.Intn(12))
		}
		row := make([]step, r.Intn(40))
		for i := range row {
			all := steps() // what never is stands in few rows, which would end too soon else
			if r.Intn(20) == 0 {
				all = allSteps()
			}
			row[i] = all[r.Intn(len(all))]
		}
		isRow(t, string(s), row...)
	}
}

// TestTake: P12.2, each count of bytes of each small text, and counts beyond; the
// bound of texts is none of Take's.
func TestTake(t *testing.T) {
	for size := range 40 {
		for ahead := range size + 1 {
			for n := -3; n < size+3; n++ {
				isRow(t, stepped(size, 3, n), takes(ahead), takes(n), takes(0), takes(1))
			}
			for _, n := range []int{math.MinInt, math.MinInt + 1, -1 << 32, -1 << 31, 1 << 31, 1 << 32, 1<<32 + 1, math.MaxInt - 1, math.MaxInt, math.MaxInt - size, math.MaxInt - ahead} {
				isRow(t, stepped(size, 3, n), takes(ahead), takes(n), takes(0), takes(1))
			}
		}
	}
	for _, n := range []int{32767, 32768, 32769, 65535, 65536, 65537, 1 << 20} {
		s := stepped(1<<20, 11, n)
		r := code.New(s)
		if got := r.Take(n); got != s[:n] {
			t.Errorf("%d bytes: got %d", n, len(got))
		}
		if got := r.Take(1<<20 - n); got != s[n:] {
			t.Errorf("behind %d bytes: got %d", n, len(got))
		}
		isAt(t, "long pieces", r, 0, api.OK, api.OK)
	}
}

// TestTextNumbers: P12.2, every number ahead of a text, with few bytes behind it,
// at the front and behind others.
func TestTextNumbers(t *testing.T) {
	a, b := readsText(), readsByte()
	for n := range 1 << 16 {
		for _, behind := range []int{0, 1, 20} {
			s := string([]byte{byte(n / 256), byte(n % 256)}) + stepped(behind, 5, n)
			isRow(t, s, a, b, a)
			isRow(t, "abc"+s, takes(3), a, b, a)
		}
	}
}

// TestTextBounds: P12.2, as many bytes as the number says, one fewer, one more: one
// above the bound is long, whether its bytes are there or not, and then stays.
func TestTextBounds(t *testing.T) {
	for _, n := range []int{0, 1, 2, 255, 256, 257, 32766, 32767, 32768, 32769, 32770, 33023, 65534, 65535} {
		for _, more := range []int{-1, 0, 1, 2} {
			if n+more < 0 {
				continue
			}
			body := stepped(n+more, 7, n)
			r := code.New("ab" + string([]byte{byte(n / 256), byte(n % 256)}) + body)
			if r.U16() != 0x6162 {
				t.Error("U16")
			}
			got, what := r.Text(), fmt.Sprintf("%d bytes for %d", n+more, n)
			switch {
			case n > 32768:
				isAt(t, what, r, 2+n+more, api.ErrLong, api.ErrLong)
			case more < 0:
				isAt(t, what, r, 2+n+more, api.ErrShort, api.ErrShort)
			case more == 0:
				isAt(t, what, r, 0, api.OK, api.OK)
			default:
				isAt(t, what, r, more, api.OK, api.ErrForm)
			}
			if want := body[:min(n, len(body))]; r.Fault() == api.OK && got != want || r.Fault() != api.OK && got != "" {
				t.Errorf("%s: got %d", what, len(got))
			}
		}
	}
}

// TestFirstFaultStays: P12.2, each fault, ahead of what would be another one, and of
// what would be none.
func TestFirstFaultStays(t *testing.T) {
	for _, first := range []struct {
		s     string
		fault func(r *code.Reader)
		want  api.Errno
	}{
		{"\x00\x05\x00", func(r *code.Reader) { r.U32() }, api.ErrShort},
		{"\x00\x05\x00", func(r *code.Reader) { r.U64() }, api.ErrShort},
		{"\x00\x05\x00", func(r *code.Reader) { r.Text() }, api.ErrShort},
		{"\x00\x05\x00", func(r *code.Reader) { r.Take(4) }, api.ErrShort},
		{"\x00\x01\x00", func(r *code.Reader) { r.Take(-1) }, api.ErrArg},
		{"\x80\x01\x00", func(r *code.Reader) { r.Text() }, api.ErrLong},
		{"\x80\x01", func(r *code.Reader) { r.Text() }, api.ErrLong},
	} {
		r := code.New(first.s)
		first.fault(r)
		for range 3 {
			isAt(t, "a fault", r, len(first.s), first.want, first.want)
			for _, c := range allSteps() {
				switch got := c.got(r); c.name {
				case "Left":
					if got != len(first.s) {
						t.Errorf("%x, %v: %v left", first.s, first.want, got)
					}
				case "Fault", "End":
					if got != first.want {
						t.Errorf("%x, %v: %s %v", first.s, first.want, c.name, got)
					}
				default:
					if got != c.got(nil) {
						t.Errorf("%x, %v: %s %v", first.s, first.want, c.name, got)
					}
				}
			}
		}
	}
}

// TestEnd: P12.3, that bytes are left is no fault: what is left may still be read.
func TestEnd(t *testing.T) {
	for n := range 30 {
		s := stepped(n, 1, n)
		r := code.New(s)
		for i := range n {
			isAt(t, "on the way", r, n-i, api.OK, api.ErrForm)
			if got := r.U8(); got != s[i] {
				t.Errorf("byte %d of %d: %d", i, n, got)
			}
		}
		isAt(t, "at the end", r, 0, api.OK, api.OK)
		if got := r.U8(); got != 0 {
			t.Errorf("beyond the end: %d", got)
		}
		isAt(t, "beyond the end", r, 0, api.ErrShort, api.ErrShort)
	}
}

// TestNoReader: P12.3 and R3, a nil reader, and such as New did not make.
func TestNoReader(t *testing.T) {
	for _, r := range []*code.Reader{nil, {}, new(code.Reader)} {
		for range 3 {
			if r.U8() != 0 || r.U16() != 0 || r.U32() != 0 || r.U64() != 0 {
				t.Error("a number")
			}
			for _, n := range []int{math.MinInt, -1, 0, 1, math.MaxInt} {
				if s := r.Take(n); s != "" {
					t.Errorf("Take(%d): %x", n, s)
				}
			}
			if s := r.Text(); s != "" {
				t.Errorf("Text: %x", s)
			}
			isAt(t, "no reader", r, 0, api.ErrNil, api.ErrNil)
		}
	}
}

// TestReadersApart: R6, two readers of one text have nothing of one another.
func TestReadersApart(t *testing.T) {
	s := stepped(10, 1, 0)
	a, b := code.New(s), code.New(s)
	a.U32()
	a.Take(-1)
	isAt(t, "the one", a, 6, api.ErrArg, api.ErrArg)
	isAt(t, "the other one", b, 10, api.OK, api.ErrForm)
	if b.U64() != 0x0001020304050607 || b.U16() != 0x0809 {
		t.Error("the other one reads something else")
	}
	isAt(t, "the other one", b, 0, api.OK, api.OK)
}

// item is a value that was written, and the call that reads it.
type item struct {
	bytes string
	value any
	read  func(r *code.Reader) any
}

func anItem(t *testing.T, r *rand.Rand) item {
	t.Helper()
	x := r.Uint64() >> r.Intn(64)
	s := some(r.Intn(6)*r.Intn(6), int64(x))
	switch r.Intn(6) {
	case 0:
		return item{string([]byte{byte(x)}), byte(x), func(r *code.Reader) any { return r.U8() }}
	case 1:
		return item{code.U16(uint16(x)), uint16(x), func(r *code.Reader) any { return r.U16() }}
	case 2:
		return item{code.U32(uint32(x)), uint32(x), func(r *code.Reader) any { return r.U32() }}
	case 3:
		return item{code.U64(x), x, func(r *code.Reader) any { return r.U64() }}
	case 4:
		return item{s, s, func(r *code.Reader) any { return r.Take(len(s)) }}
	}
	return item{text(t, s), s, func(r *code.Reader) any { return r.Text() }}
}

// TestWrittenIsRead: P12.4; and cut anywhere, what is whole ahead of the cut is read,
// and no more; with more behind it, that is left.
func TestWrittenIsRead(t *testing.T) {
	r := rand.New(rand.NewSource(3))
	for range 600 {
		var items []item
		whole := ""
		for range r.Intn(12) {
			items = append(items, anItem(t, r))
			whole += items[len(items)-1].bytes
		}
		for cut := range len(whole) + 1 {
			areRead(t, items, whole[:cut], len(whole))
		}
		areRead(t, items, whole+"\x00", len(whole))
		areRead(t, items, whole+some(9, 1), len(whole))
	}
}

// areRead reads items from s, up to the first one that is not whole there.
func areRead(t *testing.T, items []item, s string, size int) {
	t.Helper()
	r, left := code.New(s), len(s)
	for i, x := range items {
		got := x.read(r)
		if len(x.bytes) > left {
			if r.Left() != left || r.Fault() != api.ErrShort || got == x.value && x.value != x.read(nil) {
				t.Fatalf("%x, item %d: got %v, %d left, %v", s, i, got, r.Left(), r.Fault())
			}
			return
		}
		left -= len(x.bytes)
		if got != x.value || r.Left() != left || r.Fault() != api.OK {
			t.Fatalf("%x, item %d: got %v, want %v, %d left, %v", s, i, got, x.value, r.Left(), r.Fault())
		}
	}
	end := api.OK
	if len(s) > size {
		end = api.ErrForm
	}
	isAt(t, "all items", r, len(s)-size, api.OK, end)
}

// TestGreatTextsAreRead: P12.4, texts at the bound, one behind the other.
func TestGreatTextsAreRead(t *testing.T) {
	sizes := []int{32768, 0, 32767, 1, 32768, 2, 32768}
	whole := ""
	for i, n := range sizes {
		whole += text(t, stepped(n, 7, i)) + code.U32(uint32(i))
	}
	r := code.New(whole)
	for i, n := range sizes {
		if got := r.Text(); got != stepped(n, 7, i) {
			t.Errorf("text %d: %d bytes", i, len(got))
		}
		if got := r.U32(); got != uint32(i) {
			t.Errorf("number %d: %d", i, got)
		}
	}
	isAt(t, "great texts", r, 0, api.OK, api.OK)
}
