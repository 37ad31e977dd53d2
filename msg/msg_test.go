package msg_test

import (
	"encoding/hex"
	"fmt"
	"math"
	"math/rand"
	"reflect"
	"strings"
	"testing"

	"isthmus/api"
	"isthmus/msg"
)

// stepped are so many bytes, from one on by a step.
func stepped(count, step, from int) string {
	b := make([]byte, count)
	for i := range b {
		b[i] = byte(i*step + from)
	}
	return string(b)
}

// some are so many bytes.
func some(r *rand.Rand, count int) string {
	b := make([]byte, count)
	r.Read(b)
	return string(b)
}

func four(lo uint64) api.Addr { return api.Addr{Lo: lo} }

func six(hi, lo uint64) api.Addr { return api.Addr{V6: true, Hi: hi, Lo: lo} }

func at(a api.Addr, port uint16) api.Endpoint { return api.Endpoint{Addr: a, Port: port} }

// brief tells a message without the most of its texts.
func brief(m api.Msg) string {
	out := fmt.Sprintf("type %d", m.Type)
	for _, f := range fieldNames() {
		switch x := get(m, f).(type) {
		case string:
			if x != "" {
				out += fmt.Sprintf(", %s of %d bytes %x", f, len(x), x[:min(len(x), 4)])
			}
		default:
			if !reflect.ValueOf(x).IsZero() {
				out += fmt.Sprintf(", %s %v", f, x)
			}
		}
	}
	return out
}

func start(s string) string {
	return fmt.Sprintf("%d bytes %s", len(s), hex.EncodeToString([]byte(s[:min(len(s), 48)])))
}

// isMessage: P15.1, May, Encode and Size at once; P15.4, if it may be.
func isMessage(t *testing.T, m api.Msg) {
	t.Helper()
	want, wantErr := wantEncode(m)
	if err := msg.May(m); err != wantErr {
		t.Errorf("May of %s: %v, want %v", brief(m), err, wantErr)
	}
	s, err := msg.Encode(m)
	if s != want || err != wantErr {
		t.Errorf("Encode of %s: %s, %v, want %s, %v", brief(m), start(s), err, start(want), wantErr)
	}
	if n := msg.Size(m); n != len(want) {
		t.Errorf("Size of %s: %d, want %d", brief(m), n, len(want))
	}
	if wantErr != api.OK {
		return
	}
	if again, err := msg.Decode(want); again != m || err != api.OK {
		t.Errorf("Decode of %s: %s, %v, want %s", start(want), brief(again), err, brief(m))
	}
}

// isWrong: P15.1, that error, and nothing beside it.
func isWrong(t *testing.T, m api.Msg, want api.Errno) {
	t.Helper()
	isMessage(t, m)
	if s, err := msg.Encode(m); s != "" || err != want || msg.May(m) != want || msg.Size(m) != 0 {
		t.Errorf("%s: %s, %v, %v, %d, want %v", brief(m), start(s), err, msg.May(m), msg.Size(m), want)
	}
}

// isRead: P15.2; P15.4, if it is a message's bytes.
func isRead(t *testing.T, s string) {
	t.Helper()
	m, err := msg.Decode(s)
	if want, wantErr := wantDecode(s); m != want || err != wantErr {
		t.Errorf("Decode of %s: %s, %v, want %s, %v", start(s), brief(m), err, brief(want), wantErr)
	}
	if err != api.OK {
		if m != (api.Msg{}) {
			t.Errorf("beside %v: %s", err, brief(m))
		}
		return
	}
	if again, err := msg.Encode(m); again != s || err != api.OK || msg.May(m) != api.OK || msg.Size(m) != len(s) {
		t.Errorf("%s is written as %s, %v", start(s), start(again), err)
	}
}

// isNone: P15.2, that error, and nothing beside it.
func isNone(t *testing.T, s string, want api.Errno) {
	t.Helper()
	isRead(t, s)
	if m, err := msg.Decode(s); m != (api.Msg{}) || err != want {
		t.Errorf("Decode of %s: %s, %v, want %v", start(s), brief(m), err, want)
	}
}

// isBytes: P15.1, P15.2, that message is these bytes.
func isBytes(t *testing.T, m api.Msg, s string) {
	t.Helper()
	isMessage(t, m)
	isRead(t, s)
	if got, err := msg.Encode(m); got != s || err != api.OK || msg.Size(m) != len(s) {
		t.Errorf("%s: %s, %v, want %s", brief(m), start(got), err, start(s))
	}
	if got, err := msg.Decode(s); got != m || err != api.OK {
		t.Errorf("%s: %s, %v, want %s", start(s), brief(got), err, brief(m))
	}
}

// whole is a message of a type that may be, if there is the type, no field of which is
// zero but those that it has not, and all bytes of a number of which are unlike.
func whole(kind uint8) api.Msg {
	m := api.Msg{
		Type: kind, From: stepped(32, 3, 0x11), To: stepped(32, 5, 0x22), Index: 0x01020304, Peer: 0xf1f2f3f4,
		Counter: 0x1112131415161718, Base: 0x2122232425262728, Version: 0xe1e2e3e4e5e6e7e8, Tx: stepped(16, 7, 0x33),
		End: at(four(0xc0a80102), 0xabcd), Code: 0x9876, Text: "name", Data: "data of it", Sig: stepped(64, 11, 0x44),
	}
	for _, f := range fieldNames() {
		if !wantHas(kind, f) {
			m = set(m, f, reflect.Zero(reflect.TypeOf(get(m, f))).Interface())
		}
	}
	return m
}

func TestExamples(t *testing.T) {
	tx := strings.Repeat("\x01", 16)
	isBytes(t, api.Msg{Type: api.MsgProbe, Tx: tx}, "\x07"+tx)
	isBytes(t, api.Msg{Type: api.MsgSeen, Tx: tx, End: at(four(0x0a000001), 5)}, "\x08"+tx+"\x04\x0a\x00\x00\x01\x00\x05")
	isBytes(t, api.Msg{Type: api.MsgInit, Index: 7, Data: "ab"}, "\x11\x00\x00\x00\x07\x00\x02\x61\x62")
	isWrong(t, api.Msg{Type: api.MsgInit, From: tx + tx}, api.ErrField)
	isWrong(t, api.Msg{Type: api.MsgInit, From: tx + tx, Index: 7, Data: "ab"}, api.ErrField)
	isWrong(t, api.Msg{}, api.ErrType)
	isWrong(t, api.Msg{Type: api.MsgLoad, Data: stepped(32769, 1, 0)}, api.ErrLong)
}

// TestEveryType: P15.1, P15.2, the bytes of each type, written out.
func TestEveryType(t *testing.T) {
	key, other, tx, sig := stepped(32, 3, 0x11), stepped(32, 5, 0x22), stepped(16, 7, 0x33), stepped(64, 11, 0x44)
	index, peer := "\x01\x02\x03\x04", "\xf1\xf2\xf3\xf4"
	counter, base, version := "\x11\x12\x13\x14\x15\x16\x17\x18", "\x21\x22\x23\x24\x25\x26\x27\x28", "\xe1\xe2\xe3\xe4\xe5\xe6\xe7\xe8"
	end, data := "\x04\xc0\xa8\x01\x02\xab\xcd", "\x00\x0adata of it"
	for i, s := range []string{
		"\x01" + key + other + "\x00\x04name",
		"\x02" + key + version + end,
		"\x03" + key + version,
		"\x04" + version + data + sig,
		"\x05" + base + version + data + sig,
		"\x06\x98\x76",
		"\x07" + tx,
		"\x08" + tx + end,
		"\x09" + key + data,
		"\x0a" + key + data,
		"\x0b" + key,
		"\x0c" + key + tx,
		"\x0d" + data,
		"\x0e" + other + data,
		"\x0f" + key + data,
		"\x10" + other,
		"\x11" + index + data,
		"\x12" + index + peer + data,
		"\x13" + peer + counter + data,
		"\x14" + key + tx,
		"\x15" + tx + end,
	} {
		isBytes(t, whole(uint8(i+1)), s)
	}
}

// TestNumbers: P15.1, P15.2, numbers of all sizes, in each type that has them.
func TestNumbers(t *testing.T) {
	numbers := []uint64{0, math.MaxUint64, 0x0102030405060708}
	for bit := range 64 {
		numbers = append(numbers, 1<<bit, 1<<bit-1)
	}
	for kind := range uint8(types + 1) {
		for _, f := range fieldNames() {
			for _, x := range numbers {
				switch m := whole(kind); get(m, f).(type) {
				case uint16:
					isMessage(t, set(m, f, uint16(x)))
				case uint32:
					isMessage(t, set(m, f, uint32(x)))
				case uint64:
					isMessage(t, set(m, f, x))
				case api.Endpoint:
					isMessage(t, set(m, f, at(four(x), uint16(x))))
					isMessage(t, set(m, f, at(six(x, ^x), uint16(x))))
				}
			}
		}
	}
	for n := range 1 << 16 {
		isMessage(t, api.Msg{Type: api.MsgRefused, Code: uint16(n)})
	}
}

// TestNames: P15.3, every number, every name, texts that are none.
func TestNames(t *testing.T) {
	if types != api.MsgTold {
		t.Error("the last type is", api.MsgTold)
	}
	names := strings.Fields("register registered poll full delta refused probe seen ping pong hello challenge proof send came gone init resp load ask told")
	for n := range 256 {
		want := ""
		if n >= 1 && n <= len(names) {
			want = names[n-1]
		}
		if name := msg.Name(uint8(n)); name != want {
			t.Errorf("Name(%d): %q, want %q", n, name, want)
		}
		if row, _ := wantRow(uint8(n)); row != want {
			t.Errorf("row %d: %q", n, row)
		}
	}
	isOf := func(name string) {
		t.Helper()
		want, wantErr := 0, api.ErrType
		for i, x := range names {
			if x == name {
				want, wantErr = i+1, api.OK
			}
		}
		if kind, err := msg.Of(name); int(kind) != want || err != wantErr {
			t.Errorf("Of(%q): %d, %v, want %d, %v", name, kind, err, want, wantErr)
		}
	}
	for _, name := range names {
		isOf(name)
		for i := range len(name) + 1 {
			isOf(name[:i])
			isOf(name[i:])
			for b := range 256 {
				isOf(name[:i] + string([]byte{byte(b)}) + name[i:])
				if i < len(name) {
					isOf(name[:i] + string([]byte{byte(b)}) + name[i+1:])
				}
			}
		}
		isOf(strings.ToUpper(name))
		isOf(strings.Title(name))
		for _, other := range names {
			isOf(name + other)
			isOf(name + " " + other)
		}
	}
	for _, name := range []string{"", " ", "\x00", "none", "0", "1", "21", "Msg", "MsgInit", "message", strings.Repeat("load", 1<<16)} {
		isOf(name)
	}
}

// TestSizes: P15.4, how long a message is, with numbers, keys, ports and bytes of all
// kinds: only its type, the lengths of its texts and the version of its End tell.
func TestSizes(t *testing.T) {
	r := rand.New(rand.NewSource(1))
	bare := []int{0, 67, 48, 41, 75, 83, 3, 17, 24, 35, 35, 33, 49, 3, 35, 35, 33, 7, 11, 15, 49, 24}
	for kind := range uint8(types + 1) {
		for range 300 {
			m, want := api.Msg{Type: kind}, bare[kind]
			for _, f := range fieldNames() {
				if !wantHas(kind, f) {
					continue
				}
				x, more := drawn(r, m, f)
				m, want = set(m, f, x), want+more
			}
			if n := msg.Size(m); n != want {
				t.Errorf("%s: %d bytes, want %d", brief(m), n, want)
			}
			isMessage(t, m)
		}
	}
}

// drawn is something that may stand in a field, and how many bytes more it has than the
// least that may.
func drawn(r *rand.Rand, m api.Msg, field string) (any, int) {
	if n, is := exact(field); is {
		return some(r, n), 0
	}
	if n, is := most(field); is {
		count := []int{0, 1, n, r.Intn(n + 1), r.Intn(65)}[r.Intn(5)]
		return some(r, count), count
	}
	x := r.Uint64() >> r.Intn(64)
	switch get(m, field).(type) {
	case uint16:
		return uint16(x), 0
	case uint32:
		return uint32(x), 0
	case uint64:
		return x, 0
	}
	if r.Intn(2) == 0 {
		return at(four(uint64(uint32(x))), uint16(r.Int())), 0
	}
	return at(six(x, r.Uint64()>>r.Intn(64)), uint16(r.Int())), 12
}

// TestArgumentsStay: R5, R6, asked again, a message and its bytes are the same.
func TestArgumentsStay(t *testing.T) {
	for kind := range uint8(types + 1) {
		m := whole(kind)
		was := m
		first, err := msg.Encode(m)
		msg.May(m)
		msg.Size(m)
		msg.Decode(first)
		again, errAgain := msg.Encode(m)
		if m != was || first != again || err != errAgain {
			t.Errorf("%s: %s, then %s", brief(m), start(first), start(again))
		}
	}
}
