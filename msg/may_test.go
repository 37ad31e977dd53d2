package msg_test

import (
	"math"
	"math/rand"
	"testing"

	"isthmus/api"
	"isthmus/msg"
)

// ends are endpoints of both versions; some of them may not be.
func ends() []any {
	return []any{
		api.Endpoint{}, at(four(0), 1), at(four(1), 0), at(four(0x0a000001), 5), at(four(math.MaxUint32), 65535),
		at(six(0, 0), 0), at(six(0, 1), 0), at(six(1, 0), 7), at(six(0, 1<<32), 7), at(six(math.MaxUint64, math.MaxUint64), 65535),
		at(four(1<<32), 5), at(four(1<<32|0x0a000001), 5), at(four(1<<63), 0), at(four(math.MaxUint64), 65535),
		at(api.Addr{Hi: 1}, 0), at(api.Addr{Hi: 1, Lo: 0x0a000001}, 5), at(api.Addr{Hi: 1 << 63, Lo: 1}, 1), at(api.Addr{Hi: 1, Lo: 1 << 32}, 1),
	}
}

// texts are of so many bytes each.
func texts(counts ...int) []any {
	var out []any
	for i, n := range counts {
		out = append(out, stepped(n, 7, i))
	}
	return out
}

// allTexts are what is laid into a field that is a text; they are made once, as they are
// many bytes.
var allTexts = append(
	texts(0, 1, 15, 16, 17, 31, 32, 33, 63, 64, 65, 256, 32767, 32768, 32769, 65535, 65536, 65536+16, 65536+32, 65536+64),
	"\x00", stepped(32, 0, 0), stepped(16, 0, 0), stepped(64, 0, 0xff))

// fewTexts are some of those.
var fewTexts = texts(0, 1, 16, 32, 64, 65, 32768, 32769)

// samples are what is laid into a field: what may stand there and what may not, at the
// edges; of a text one of these.
func samples(field string, texts []any) []any {
	switch field {
	case "Index", "Peer":
		return []any{uint32(0), uint32(1), uint32(1 << 16), uint32(math.MaxUint32)}
	case "Counter", "Base", "Version":
		return []any{uint64(0), uint64(1), uint64(1 << 32), uint64(math.MaxUint64)}
	case "Code":
		return []any{uint16(0), uint16(1), uint16(256), uint16(math.MaxUint16)}
	case "End":
		return ends()
	}
	return texts
}

// TestEachField: P15.1, each type that there may be, with everything in each field,
// whether it has that field or not.
func TestEachField(t *testing.T) {
	for kind := range 256 {
		m := whole(uint8(kind))
		isMessage(t, m)
		for _, f := range fieldNames() {
			for _, x := range samples(f, allTexts) {
				isMessage(t, set(m, f, x))
				isMessage(t, set(api.Msg{Type: uint8(kind)}, f, x))
			}
		}
	}
}

// TestNoType: P15.1, what else is wrong does not matter then.
func TestNoType(t *testing.T) {
	for kind := range 256 {
		if kind >= 1 && kind <= types {
			continue
		}
		for _, like := range []uint8{0, 1, 2, 5, 18, 19} {
			m := whole(like)
			m.Type = uint8(kind)
			isWrong(t, m, api.ErrType)
			m.Data, m.Tx = stepped(32769, 1, 1), "x"
			isWrong(t, m, api.ErrType)
		}
	}
}

// TestMissing: P15.1, each text that must have so many bytes, with each other count.
func TestMissing(t *testing.T) {
	for kind := range uint8(types + 1) {
		for _, f := range fieldNames() {
			size, is := exact(f)
			if !is || !wantHas(kind, f) {
				continue
			}
			for n := range 2*size + 3 {
				m := set(whole(kind), f, stepped(n, 3, n))
				if isMessage(t, m); n != size {
					isWrong(t, m, api.ErrField)
				} else if err := msg.May(m); err != api.OK {
					t.Errorf("%s: %v", brief(m), err)
				}
			}
		}
	}
}

// TestOthersFields: P15.1, each field that a type has not, whatever is in it.
func TestOthersFields(t *testing.T) {
	for kind := uint8(1); kind <= types; kind++ {
		for _, f := range fieldNames() {
			if wantHas(kind, f) {
				continue
			}
			full := api.Msg{
				From: stepped(32, 1, 1), To: stepped(32, 1, 2), Index: 1, Peer: 1, Counter: 1, Base: 1, Version: 1, Tx: stepped(16, 1, 1),
				End: at(four(0), 1), Code: 1, Text: "a", Data: "a", Sig: stepped(64, 1, 1),
			}
			isWrong(t, set(whole(kind), f, get(full, f)), api.ErrField)
		}
		if wantHas(kind, "End") {
			continue
		}
		for _, e := range []api.Endpoint{at(six(0, 0), 0), at(four(1), 0), at(four(0), 1), at(api.Addr{Hi: 1}, 0), at(four(1<<32), 0)} {
			isWrong(t, set(whole(kind), "End", e), api.ErrField)
		}
	}
}

// TestEnds: P15.1, both versions, and addresses that may not be, in each type that has
// an End.
func TestEnds(t *testing.T) {
	r := rand.New(rand.NewSource(2))
	for _, kind := range []uint8{api.MsgRegistered, api.MsgSeen, api.MsgTold} {
		m := whole(kind)
		for bit := range 64 {
			for _, port := range []uint16{0, 1, 65535} {
				isMessage(t, set(m, "End", at(six(1<<bit, 0), port)))
				isMessage(t, set(m, "End", at(six(0, 1<<bit), port)))
				isWrong(t, set(m, "End", at(api.Addr{Hi: 1 << bit}, port)), api.ErrField)
				if bit >= 32 {
					isWrong(t, set(m, "End", at(four(1<<bit), port)), api.ErrField)
				}
			}
		}
		for range 2000 {
			a := api.Addr{V6: r.Intn(2) == 0, Hi: r.Uint64() >> r.Intn(65), Lo: r.Uint64() >> r.Intn(65)}
			isMessage(t, set(m, "End", at(a, uint16(r.Int()))))
		}
		for port := range 1 << 16 {
			if s, err := msg.Encode(set(m, "End", at(four(7), uint16(port)))); err != api.OK || s[len(s)-2] != byte(port/256) || s[len(s)-1] != byte(port) {
				t.Errorf("port %d: %s, %v", port, start(s), err)
			}
		}
	}
}

// TestTexts: P15.1, each count of bytes of Text and many of Data, at the bound and beyond.
func TestTexts(t *testing.T) {
	for kind := range uint8(types + 1) {
		for _, f := range []string{"Text", "Data"} {
			bound, _ := most(f)
			if !wantHas(kind, f) {
				continue
			}
			for n := range 300 {
				isMessage(t, set(whole(kind), f, stepped(n, 3, n)))
			}
			for _, n := range []int{bound - 1, bound, 32767, 32768} {
				isMessage(t, set(whole(kind), f, stepped(n, 3, n)))
			}
			for _, n := range []int{bound + 1, bound + 2, 32769, 40000, 65535, 65536, 65537, 65536 + bound, 1 << 17} {
				isWrong(t, set(whole(kind), f, stepped(n, 3, n)), api.ErrLong)
			}
			if err := msg.May(set(whole(kind), f, stepped(bound, 3, 1))); err != api.OK {
				t.Errorf("type %d, %s of %d bytes: %v", kind, f, bound, err)
			}
		}
	}
}

// TestFieldAheadOfLong: P15.1, R2, a text that is too long, and each other field wrong,
// whether it stands ahead of it or behind it.
func TestFieldAheadOfLong(t *testing.T) {
	for kind := uint8(1); kind <= types; kind++ {
		for _, long := range []string{"Text", "Data"} {
			bound, _ := most(long)
			if !wantHas(kind, long) {
				continue
			}
			m := set(whole(kind), long, stepped(bound+1, 1, 1))
			isWrong(t, m, api.ErrLong)
			for _, f := range fieldNames() {
				if f == long {
					continue
				}
				for _, x := range samples(f, allTexts) {
					isMessage(t, set(m, f, x))
				}
				if _, is := exact(f); is {
					isWrong(t, set(m, f, "x"), api.ErrField)
				}
			}
		}
	}
}

// TestTwoFields: P15.1, R2, two fields at once, with some of everything in both.
func TestTwoFields(t *testing.T) {
	for kind := range uint8(types + 2) {
		for i, a := range fieldNames() {
			for _, b := range fieldNames()[:i] {
				for _, x := range samples(a, fewTexts) {
					one := set(whole(kind), a, x)
					for _, y := range samples(b, fewTexts) {
						m := set(one, b, y)
						if err, want := msg.May(m), wantMay(m); err != want {
							t.Errorf("May of %s: %v, want %v", brief(m), err, want)
						}
					}
				}
			}
		}
	}
}

// TestDrawnMessages: P15.1, anything in some fields.
func TestDrawnMessages(t *testing.T) {
	r := rand.New(rand.NewSource(3))
	for range 20000 {
		m := whole(uint8(r.Intn(types + 1)))
		m.Type = uint8(int(m.Type) + r.Intn(2)*r.Intn(2))
		for range r.Intn(4) {
			f := fieldNames()[r.Intn(13)]
			all := samples(f, allTexts)
			m = set(m, f, all[r.Intn(len(all))])
		}
		isMessage(t, m)
	}
}
