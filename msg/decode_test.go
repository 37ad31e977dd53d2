package msg_test

import (
	"math/rand"
	"strings"
	"testing"

	"isthmus/api"
	"isthmus/msg"
)

func encoded(t *testing.T, m api.Msg) string {
	t.Helper()
	s, err := msg.Encode(m)
	if err != api.OK {
		t.Fatalf("%s: %v", brief(m), err)
	}
	return s
}

// messages are some of each type: small ones, with and without bytes of texts, with Ends
// of both versions.
func messages() []api.Msg {
	var out []api.Msg
	for kind := uint8(1); kind <= types; kind++ {
		m := whole(kind)
		out = append(out, m)
		if wantHas(kind, "End") {
			out = append(out, set(m, "End", at(six(0x0123456789abcdef, 0xfedcba9876543210), 0x1357)))
		}
		for _, f := range []string{"Text", "Data"} {
			if wantHas(kind, f) {
				out = append(out, set(m, f, ""), set(m, f, "a"), set(m, f, stepped(64, 9, 4)))
			}
		}
	}
	return out
}

// ahead is how many bytes a message has ahead of a field.
func ahead(t *testing.T, m api.Msg, field string) int {
	t.Helper()
	n := 1
	_, fields := wantRow(m.Type)
	for _, f := range fields {
		if f == field {
			return n
		}
		_, size, err := wantField(f, get(m, f), encoded(t, m)[n:])
		if err != api.OK {
			t.Fatal(err)
		}
		n += size
	}
	t.Fatalf("type %d has no %s", m.Type, field)
	return 0
}

// TestBeginnings: P15.2, each beginning of a message, and what has bytes behind it.
func TestBeginnings(t *testing.T) {
	for _, m := range messages() {
		s := encoded(t, m)
		isRead(t, s)
		for n := range s {
			isNone(t, s[:n], api.ErrShort)
		}
		for b := range 256 {
			isNone(t, s+string([]byte{byte(b)}), api.ErrForm)
		}
		for _, more := range []string{"\x00\x00", s, stepped(16, 1, 1), stepped(70000, 1, 1)} {
			isNone(t, s+more, api.ErrForm)
		}
	}
}

// TestTurned: P15.2, P15.4, each byte of a message as each other one: it is the bytes of
// another message, or of none.
func TestTurned(t *testing.T) {
	for _, m := range messages() {
		s := encoded(t, m)
		for i := range s {
			for b := range 256 {
				other := s[:i] + string([]byte{byte(b)}) + s[i+1:]
				isRead(t, other)
				if got, err := msg.Decode(other); err == api.OK && (got == m) != (other == s) {
					t.Errorf("%s and %s: %s", start(s), start(other), brief(got))
				}
			}
		}
	}
}

// TestFirstByte: P15.2, no byte, and each type, with whatever behind it.
func TestFirstByte(t *testing.T) {
	isNone(t, "", api.ErrShort)
	for b := range 256 {
		kind := string([]byte{byte(b)})
		for n := range 200 {
			s := kind + strings.Repeat("\x00", n)
			if isRead(t, s); b == 0 || b > types {
				isNone(t, s, api.ErrType)
			}
			isRead(t, kind+strings.Repeat("\x04", n))
			isRead(t, kind+strings.Repeat("\xff", n))
		}
		if b >= 1 && b <= types {
			isNone(t, kind, api.ErrShort)
		}
	}
}

// TestEndsFirstByte: P15.2, an End with any first byte, with any count of bytes behind it.
func TestEndsFirstByte(t *testing.T) {
	for _, kind := range []uint8{api.MsgRegistered, api.MsgSeen, api.MsgTold} {
		m := whole(kind)
		s := encoded(t, m)
		s = s[:ahead(t, m, "End")]
		isNone(t, s, api.ErrShort)
		for b := range 256 {
			for n := range 24 {
				x := s + string([]byte{byte(b)}) + stepped(n, 5, b)
				isRead(t, x)
				size := map[int]int{4: 6, 6: 18}[b]
				switch _, err := msg.Decode(x); {
				case size == 0 && err != api.ErrForm, size > 0 && n < size && err != api.ErrShort, size > 0 && n == size && err != api.OK, size > 0 && n > size && err != api.ErrForm:
					t.Errorf("%s: %v", start(x), err)
				}
			}
		}
	}
}

// TestToldLengths: P15.2, each length that a Text or a Data may tell, with fewer bytes
// than that behind it: one that is too long is told by its length alone.
func TestToldLengths(t *testing.T) {
	for kind := uint8(1); kind <= types; kind++ {
		for _, f := range []string{"Text", "Data"} {
			bound, _ := most(f)
			if !wantHas(kind, f) {
				continue
			}
			m := whole(kind)
			s := encoded(t, m)
			s = s[:ahead(t, m, f)]
			isNone(t, s, api.ErrShort)
			for b := range 256 {
				isNone(t, s+string([]byte{byte(b)}), api.ErrShort)
			}
			for n := range 1 << 16 {
				told := s + string([]byte{byte(n >> 8), byte(n)})
				want := api.ErrShort
				if n > bound {
					want = api.ErrLong
				}
				for _, there := range []int{0, 3} {
					x := told + stepped(there, 1, n)
					got, err := msg.Decode(x)
					if n > there && (got != (api.Msg{}) || err != want) {
						t.Errorf("%s: %s, %v, want %v", start(x), brief(got), err, want)
					}
				}
			}
		}
	}
}

// TestLongTexts: P15.2, as many bytes as are told, one fewer, one more, at the bound and
// beyond, with what stands behind them and without.
func TestLongTexts(t *testing.T) {
	for kind := uint8(1); kind <= types; kind++ {
		for _, f := range []string{"Text", "Data"} {
			bound, _ := most(f)
			if !wantHas(kind, f) {
				continue
			}
			m := set(whole(kind), f, "")
			s := encoded(t, m)
			place := ahead(t, m, f)
			for _, n := range []int{0, 1, 63, 64, 65, 66, 255, 256, 257, 32767, 32768, 32769, 32770, 65535} {
				told := s[:place] + string([]byte{byte(n >> 8), byte(n)})
				for more := max(-1, -n); more <= 1; more++ {
					x := told + stepped(n+more, 3, 1)
					isRead(t, x)
					isRead(t, x+s[place+2:])
					if n > bound {
						isNone(t, x, api.ErrLong)
						isNone(t, x+s[place+2:], api.ErrLong)
					}
				}
				if n <= bound {
					isBytes(t, set(m, f, stepped(n, 3, 1)), told+stepped(n, 3, 1)+s[place+2:])
				}
			}
		}
	}
}

// TestFirstFault: P15.2, R2, of two faults that of the field that stands ahead, and that
// bytes are left behind all others.
func TestFirstFault(t *testing.T) {
	key, tx := stepped(32, 1, 1), stepped(16, 1, 1)
	version := stepped(8, 1, 1)
	isNone(t, "\x01"+key[:31]+"\x05", api.ErrShort)
	isNone(t, "\x01"+key+key+"\x00\x41"+stepped(65, 1, 1)+"x", api.ErrLong)
	isNone(t, "\x01"+key+key+"\x00\x40"+stepped(65, 1, 1), api.ErrForm)
	isNone(t, "\x01"+key+key+"\x00\x40"+stepped(63, 1, 1), api.ErrShort)
	isNone(t, "\x01"+key+key+"\x00\x41"+stepped(64, 1, 1), api.ErrLong)
	isNone(t, "\x02"+key+version+"\x05", api.ErrForm)
	isNone(t, "\x02"+key+version+"\x06"+stepped(17, 1, 1), api.ErrShort)
	isNone(t, "\x02"+key+version+"\x04"+stepped(18, 1, 1), api.ErrForm)
	isNone(t, "\x04"+version+"\x80\x01"+stepped(40000, 1, 1), api.ErrLong)
	isNone(t, "\x04"+version+"\x80\x01", api.ErrLong)
	isNone(t, "\x04"+version+"\x80\x00", api.ErrShort)
	isNone(t, "\x04"+version+"\x00\x00"+stepped(63, 1, 1), api.ErrShort)
	isNone(t, "\x08"+tx[:15], api.ErrShort)
	isNone(t, "\x08"+tx+"\x00", api.ErrForm)
	isNone(t, "\x00\xff", api.ErrType)
}

// TestDrawnBytes: P15.2, P15.4, bytes that are drawn, and messages of which some bytes are
// others, are gone or are there twice.
func TestDrawnBytes(t *testing.T) {
	r := rand.New(rand.NewSource(4))
	all := messages()
	for range 100000 {
		isRead(t, string([]byte{byte(r.Intn(types + 2))})+some(r, r.Intn(120)))
		b := []byte(encoded(t, all[r.Intn(len(all))]))
		for range r.Intn(3) {
			b[r.Intn(len(b))] = []byte{0, 4, 6, 0x40, 0x80, byte(r.Int())}[r.Intn(6)]
		}
		from, to := r.Intn(len(b)), r.Intn(len(b))
		switch r.Intn(4) {
		case 0:
			isRead(t, string(b[:from])+string(b[to:]))
		case 1:
			isRead(t, string(b)+string(b[from:]))
		case 2:
			isRead(t, string(b[from:]))
		default:
			isRead(t, string(b))
		}
	}
}

// TestDrawnRight: P15.4, bytes of each type that are drawn such that they are a message's.
func TestDrawnRight(t *testing.T) {
	r := rand.New(rand.NewSource(5))
	for range 20000 {
		m := api.Msg{Type: uint8(1 + r.Intn(types))}
		_, fields := wantRow(m.Type)
		for _, f := range fields {
			x, _ := drawn(r, m, f)
			if s, is := x.(string); is && len(s) > 200 && r.Intn(20) > 0 {
				x = s[:r.Intn(65)]
			}
			m = set(m, f, x)
		}
		s, err := wantEncode(m)
		if err != api.OK {
			t.Fatal(brief(m), err)
		}
		isBytes(t, m, s)
	}
}
