package netmap_test

import (
	"encoding/hex"
	"math/rand"
	"strings"
	"testing"

	"isthmus/api"
	"isthmus/blake"
	"isthmus/netmap"
)

func unhex(t *testing.T, s string) string {
	t.Helper()
	b, err := hex.DecodeString(strings.Join(strings.Fields(s), ""))
	if err != nil {
		t.Fatal(err)
	}
	return string(b)
}

// TestBytes: P22.1, P22.2, the bytes of a map and of a delta, written out.
func TestBytes(t *testing.T) {
	k, d := strings.Repeat("41", 32), strings.Repeat("42", 32)
	m := api.Map{
		Version: 0x0102,
		Peers: []api.Peer{{
			Key: unhex(t, k), Disco: unhex(t, d), User: "ann", Tags: []string{"db", "web"}, Addrs: []api.Addr{{Lo: 0x0a000001}, {V6: true, Hi: 0xfd00 << 48, Lo: 7}},
			Expiry: 0x0a0b0c, Relay: 3, Ends: []api.Endpoint{{Addr: api.Addr{V6: true, Lo: 1}, Port: 0x1234}, {Addr: api.Addr{Lo: 0x7f000001}, Port: 5}},
		}},
		Relays: []api.RelayInfo{{ID: 3, Key: unhex(t, d), End: api.Endpoint{Addr: api.Addr{Lo: 0xc0a80001}, Port: 443}}},
		Policy: "#x",
	}
	peers := "0001 " + k + d + "0003 616e6e 0002 0002 6462 0003 776562 0002 04 0a000001 06 fd00000000000000 0000000000000007" +
		"00000000000a0b0c 03 0002 06 0000000000000000 0000000000000001 1234 04 7f000001 0005"
	relays := "0001 03" + d + "04 c0a80001 01bb"
	s := unhex(t, "0000000000000102"+peers+relays+"0002 2378")
	if wantBytes(m) != s {
		t.Fatal("a fault of the test")
	}
	isMap(t, m, api.OK)
	if netmap.Hash(m) != blake.Of(s) {
		t.Error("Hash")
	}
	isMap(t, api.Map{Version: 1}, api.OK)
	if s, err := netmap.Encode(api.Map{Version: 1}); s != unhex(t, "0000000000000001 0000 0000 0000") || err != api.OK {
		t.Errorf("a map of nothing: %x, %v", s, err)
	}
	n := api.Delta{Base: 3, Version: 0x0400, Set: m.Peers, Gone: []string{unhex(t, strings.Repeat("43", 32))}, HasRelays: true, Relays: m.Relays, HasPolicy: true, Policy: "#x", Hash: unhex(t, k)}
	s = unhex(t, "0000000000000003 0000000000000400"+peers+"0001"+strings.Repeat("43", 32)+"01"+relays+"01 0002 2378"+k)
	if got, err := netmap.EncodeDelta(n); got != s || err != api.OK {
		t.Errorf("a delta: %x, %v", got, err)
	}
	isDelta(t, n, api.OK)
	n = api.Delta{Base: 1, Version: 2, Hash: unhex(t, d)}
	s = unhex(t, "0000000000000001 0000000000000002 0000 0000 00 00"+d)
	if got, err := netmap.EncodeDelta(n); got != s || err != api.OK {
		t.Errorf("a delta of nothing: %x, %v", got, err)
	}
	n.HasPolicy = true
	s = unhex(t, "0000000000000001 0000000000000002 0000 0000 00 01 0000"+d)
	if got, err := netmap.EncodeDelta(n); got != s || err != api.OK {
		t.Errorf("a delta of no policy: %x, %v", got, err)
	}
	n.HasPolicy, n.HasRelays = false, true
	s = unhex(t, "0000000000000001 0000000000000002 0000 0000 01 0000 00"+d)
	if got, err := netmap.EncodeDelta(n); got != s || err != api.OK {
		t.Errorf("a delta of no relays: %x, %v", got, err)
	}
}

// whole are bytes of maps and of deltas.
func whole() []string {
	return []string{
		wantBytes(town()), wantBytes(small(3)), wantBytes(api.Map{Version: 1}), wantDeltaBytes(news()),
		wantDeltaBytes(api.Delta{Base: 1, Version: 2, Hash: key(9)}), wantDeltaBytes(api.Delta{Base: 1, Version: 2, Set: plains(1, 2), HasPolicy: true, Hash: key(9)}),
	}
}

// TestCut: P22.1, all beginnings and ends of bytes, and bytes with more behind them.
func TestCut(t *testing.T) {
	for _, s := range whole() {
		for i := range len(s) {
			isDecoded(t, s[:i])
			isDecoded(t, s[i:])
		}
		for _, more := range []string{"\x00", "\x01", "x", "\x00\x00", s} {
			isDecoded(t, s+more)
			isDecoded(t, more+s)
		}
		if _, err := netmap.Decode(s[:len(s)-1]); err != api.ErrForm {
			t.Errorf("a byte less: %v", err)
		}
		if _, err := netmap.DecodeDelta(s + "x"); err != api.ErrForm {
			t.Errorf("a byte more: %v", err)
		}
	}
}

// TestOneByte: P22.1, each byte of bytes another one, all there are.
func TestOneByte(t *testing.T) {
	for _, s := range whole() {
		b := []byte(s)
		for i, was := range b {
			for x := range 256 {
				if b[i] = byte(x); b[i]^was < 8 || x < 8 || x > 253 || x%37 == 0 {
					isDecoded(t, string(b))
				}
			}
			b[i] = was
		}
	}
}

// TestFirstBytes: P22.1, all first bytes of an address, and of what a delta may have.
func TestFirstBytes(t *testing.T) {
	for x := range 256 {
		b := string([]byte{byte(x)})
		for _, rest := range []int{4, 16} {
			peer := key(1) + key(2) + "\x00\x01a" + "\x00\x00" + "\x00\x01" + b + strings.Repeat("\x01", rest) + strings.Repeat("\x00", 8) + "\x00" + "\x00\x00"
			s := strings.Repeat("\x00", 7) + "\x01" + "\x00\x01" + peer + "\x00\x00" + "\x00\x00"
			want := api.ErrForm
			if x == 4 && rest == 4 || x == 6 && rest == 16 {
				want = api.OK
			}
			if _, err := netmap.Decode(s); err != want {
				t.Errorf("an address of %d and %d bytes: %v", x, rest, err)
			}
			isDecoded(t, s)
			s = strings.Repeat("\x00", 7) + "\x01" + "\x00\x00" + "\x00\x01\x07" + key(1) + b + strings.Repeat("\x01", rest) + "\x00\x50" + "\x00\x00"
			if _, err := netmap.Decode(s); err != want {
				t.Errorf("an end of %d and %d bytes: %v", x, rest, err)
			}
			isDecoded(t, s)
		}
		versions := strings.Repeat("\x00", 7) + "\x01" + strings.Repeat("\x00", 7) + "\x02"
		for _, c := range []struct {
			rest string
			none uint8
		}{{"\x00\x00" + b + "\x00", 0}, {"\x00\x00" + b + "\x00\x00\x00", 1}, {"\x00\x00\x00" + b, 0}, {"\x00\x00\x00" + b + "\x00\x00", 1}} {
			s := versions + "\x00\x00" + c.rest + key(1)
			want := api.ErrForm
			if uint8(x) == c.none {
				want = api.OK
			}
			if _, err := netmap.DecodeDelta(s); err != want {
				t.Errorf("%x: %v, want %v", s, err, want)
			}
			isDecoded(t, s)
		}
	}
}

// TestMayNot: P22.1, of bytes of the form that say what may not be: ErrMap; but ErrForm,
// once they are no such bytes.
func TestMayNot(t *testing.T) {
	m := town()
	m.Peers[3].User = "ANN"
	m.Relays = nil
	s := wantBytes(m)
	if _, err := netmap.Decode(s); err != api.ErrMap {
		t.Errorf("a map that may not be: %v", err)
	}
	if _, err := netmap.Decode(s + "\x00"); err != api.ErrForm {
		t.Errorf("and a byte: %v", err)
	}
	if _, err := netmap.Decode(s[:len(s)-1]); err != api.ErrForm {
		t.Errorf("but a byte: %v", err)
	}
	d := news()
	d.Base = 0
	s = wantDeltaBytes(d)
	if _, err := netmap.DecodeDelta(s); err != api.ErrMap {
		t.Errorf("a delta that may not be: %v", err)
	}
	if _, err := netmap.DecodeDelta(s + "\x00"); err != api.ErrForm {
		t.Errorf("and a byte: %v", err)
	}
	many := api.Map{Version: 1, Peers: []api.Peer{plain(1)}}
	many.Peers[0].Tags = make([]string, (32768-len(wantBytes(many)))/2)
	isMap(t, many, api.ErrMap)
	if _, err := netmap.Decode(wantBytes(many)); err != api.ErrMap {
		t.Errorf("%d tags: %v", len(many.Peers[0].Tags), err)
	}
	many.Peers[0].Tags = append(many.Peers[0].Tags, "")
	if _, err := netmap.Decode(wantBytes(many)); err != api.ErrForm {
		t.Errorf("%d bytes: %v", len(wantBytes(many)), err)
	}
}

// TestManyTold: P22.1, lists that say of themselves that they have more than there is.
func TestManyTold(t *testing.T) {
	most := strings.Repeat("\xff", 32768)
	for size := range 200 {
		isDecoded(t, most[:size])
	}
	isDecoded(t, most)
	isDecoded(t, most+"\xff")
	for _, s := range whole() {
		for i := range len(s) - 1 {
			isDecoded(t, s[:i]+"\xff\xff"+s[i+2:])
			isDecoded(t, s[:i]+"\x80\x00"+s[i+2:])
		}
	}
	isDecoded(t, strings.Repeat("\x00", 32768))
	isDecoded(t, strings.Repeat("\x00", 7)+"\x01\xff\xff"+strings.Repeat("\x00", 32000))
}

// TestDrawnBytes: P22.1, P22.6, bytes as they come, and pieces of sound ones.
func TestDrawnBytes(t *testing.T) {
	r := rand.New(rand.NewSource(22))
	all := whole()
	for range 20000 {
		s := all[r.Intn(len(all))]
		for range 1 + r.Intn(3) {
			i := r.Intn(len(s) + 1)
			j := i + r.Intn(len(s)+1-i)
			switch r.Intn(4) {
			case 0:
				s = s[:i] + s[j:]
			case 1:
				other := all[r.Intn(len(all))]
				k := r.Intn(len(other))
				s = s[:i] + other[k:] + s[j:]
			case 2:
				s = s[:i] + string([]byte{byte(r.Intn(8))}) + s[i:]
			default:
				b := make([]byte, r.Intn(12))
				r.Read(b)
				s = s[:i] + string(b) + s[j:]
			}
		}
		isDecoded(t, s)
	}
}
