package chacha_test

import (
	"crypto/sha256"
	"encoding/binary"
	"encoding/hex"
	"math/rand"
	"strings"
	"testing"

	"isthmus/api"
	"isthmus/chacha"
)

const greatest = 1<<32 - 1

// stepped are so many bytes, from one on by a step.
func stepped(count, step, from int) string {
	b := make([]byte, count)
	for i := range b {
		b[i] = byte(i*step + from)
	}
	return string(b)
}

func zeros(count int) string { return strings.Repeat("\x00", count) }

// some are so many bytes, the same ones in every run.
func some(count int, seed int64) string {
	b := make([]byte, count)
	rand.New(rand.NewSource(seed)).Read(b)
	return string(b)
}

func unhex(t *testing.T, s string) string {
	t.Helper()
	b, err := hex.DecodeString(s)
	if err != nil {
		t.Fatal(err)
	}
	return string(b)
}

func block(t *testing.T, key, nonce string, n uint32) string {
	t.Helper()
	b, err := chacha.Block(key, nonce, n)
	if err != api.OK || len(b) != 64 {
		t.Fatalf("Block of key %x, nonce %x, %d: %d bytes, %v", key, nonce, n, len(b), err)
	}
	return b
}

func turn(t *testing.T, key, nonce string, n uint32, s string) string {
	t.Helper()
	u, err := chacha.Turn(key, nonce, n, s)
	if err != api.OK || len(u) != len(s) {
		t.Fatalf("Turn of key %x, nonce %x, %d, %d bytes: %d bytes, %v", key, nonce, n, len(s), len(u), err)
	}
	return u
}

func isNoBlock(t *testing.T, key, nonce string, n uint32) {
	t.Helper()
	if b, err := chacha.Block(key, nonce, n); b != "" || err != api.ErrArg {
		t.Errorf("Block of a key of %d bytes, a nonce of %d, %d: %d bytes, %v", len(key), len(nonce), n, len(b), err)
	}
}

func isNotTurned(t *testing.T, key, nonce string, n uint32, s string, want api.Errno) {
	t.Helper()
	if u, err := chacha.Turn(key, nonce, n, s); u != "" || err != want {
		t.Errorf("Turn of a key of %d bytes, a nonce of %d, %d, %d bytes: %d bytes, %v, not %v", len(key), len(nonce), n, len(s), len(u), err, want)
	}
}

func TestExamples(t *testing.T) {
	key, nonce := zeros(32), zeros(12)
	if b := block(t, key, nonce, 0); b[:4] != string([]byte{118, 184, 224, 173}) {
		t.Errorf("%x", b)
	}
	if s := turn(t, key, nonce, greatest, ""); s != "" {
		t.Errorf("no bytes: %x", s)
	}
	isNotTurned(t, key, nonce, greatest, zeros(65), api.ErrLong)
	isNoBlock(t, key[:31], nonce, 0)
	isNoBlock(t, key, nonce[:8], 0)
	isNotTurned(t, key[:31], nonce, 0, "text", api.ErrArg)
	isNotTurned(t, key, nonce[:8], 0, "text", api.ErrArg)
}

// TestVectors: blocks of RFC 8439, 2.3.2 and A.1, and others, as OpenSSL made them.
func TestVectors(t *testing.T) {
	up, ff := stepped(32, 1, 0), strings.Repeat("\xff", 32)
	for _, v := range []struct {
		key, nonce string
		n          uint32
		want       string
	}{
		// those of the RFC
		{up, "\x00\x00\x00\x09\x00\x00\x00\x4a\x00\x00\x00\x00", 1, "10f1e7e4d13b5915500fdd1fa32071c4c7d1f4c733c068030422aa9ac3d46c4ed2826446079faa0914c2d705d98b02a2b5129cd1de164eb9cbd083e8a2503c4e"},
		{zeros(32), zeros(12), 0, "76b8e0ada0f13d90405d6ae55386bd28bdd219b8a08ded1aa836efcc8b770dc7da41597c5157488d7724e03fb8d84a376a43b8f41518a11cc387b669b2ee6586"},
		{zeros(32), zeros(12), 1, "9f07e7be5551387a98ba977c732d080dcb0f29a048e3656912c6533e32ee7aed29b721769ce64e43d57133b074d839d531ed1f28510afb45ace10a1f4b794d6f"},
		{zeros(31) + "\x01", zeros(12), 1, "3aeb5224ecf849929b9d828db1ced4dd832025e8018b8160b82284f3c949aa5a8eca00bbb4a73bdad192b5c42f73f2fd4e273644c8b36125a64addeb006c13a0"},
		{"\x00\xff" + zeros(30), zeros(12), 2, "72d54dfbf12ec44b362692df94137f328fea8da73990265ec1bbbea1ae9af0ca13b25aa26cb4a648cb9b9d1be65b2c0924a66c54d545ec1b7374f4872e99f096"},
		{zeros(32), zeros(11) + "\x02", 0, "c2c64d378cd536374ae204b9ef933fcd1a8b2288b3dfa49672ab765b54ee27c78a970e0e955c14f3a88e741b97c286f75f8fc299e8148362fa198a39531bed6d"},
		// those of OpenSSL
		{up, up[:12], 0, "103af111c18b549d39248fb07d60c29a95d1db88d892f7b4af709a5fd47a9e4bd5ff9a658dd52c708bef1f0f622b3747040fa3551300b1f293150a88620d5fed"},
		{up, up[:12], 1, "89fb08002917a540b7833ff3981d0e63c970b2e75174adb9e6972fc575c0a63cec802cf3e61eb198373276d865948f237e84a974fd28b89b12b8d907904f9ed6"},
		{up, up[:12], 1 << 16, "44d4ea2ae108227355265231f0989bb77e0d6b287f23313df3feb2c73fd1d461343c82149e8f89ebcda59e8af7da717923c404949c7f9478324d57feddeb9022"},
		{up, up[:12], 1<<31 - 1, "24b53472bbe553577d85ac53d2ece451f16d14b394c4b6b10566fc81fce86a377cf69bb06a522ba7db843984bbbbf56c9784a7920d65eaae8ae7dc7f446a4c58"},
		{up, up[:12], 1 << 31, "f78c7d0f188152d27cfb9aef377ca2ab371901aac889a12f22406c75ce331fb7e9e99774b0e44bf77fe4826fb31c7af42fdda90758d54b34622b4b9b52776438"},
		{up, up[:12], greatest - 1, "76e88a6c6c8e86c73ebdbd2b836b6d2a17bd519b5d01fb5dc41f7d297dcf6ea1af66f7eab93347c94597eb68d6686b62a9b0dcd58a2a16ba7cde41b6d4a0c819"},
		{up, up[:12], greatest, "14eed149cd60a456f359e704f9d4b07f940a2f5c6c971747df044f3475b769595bdb46b77c657b6c9369512a23d0d16e8cd2b886d11b4d66c9b328b3725463e2"},
		{ff, ff[:12], greatest, "d72b21cfa4b6b0c41d61f62b8a11159c6a4f63bc56c2035796c7ad37811121bbec56d54a530f3a933dd28a50feb23bfaf64f405be985f3718bdf4683e96be749"},
	} {
		if b := hex.EncodeToString([]byte(block(t, v.key, v.nonce, v.n))); b != v.want {
			t.Errorf("Block of key %x, nonce %x, %d: got %s, want %s", v.key, v.nonce, v.n, b, v.want)
		}
	}
}

// TestTextVectors: RFC 8439, 2.4.2 and A.2.
func TestTextVectors(t *testing.T) {
	for _, v := range []struct {
		key, nonce string
		n          uint32
		text, want string
	}{
		{stepped(32, 1, 0), zeros(7) + "\x4a" + zeros(4), 1,
			"Ladies and Gentlemen of the class of '99: If I could offer you only one tip for the future, sunscreen would be it.",
			"6e2e359a2568f98041ba0728dd0d6981e97e7aec1d4360c20a27afccfd9fae0bf91b65c5524733ab8f593dabcd62b3571639d624e65152ab8f530c359f0861d807ca0dbf500d6a6156a38e088a22b65e52bc514d16ccf806818ce91ab77937365af90bbf74a35be6b40b8eedf2785e42874d"},
		{unhex(t, "1c9240a5eb55d38af333888604f6b5f0473917c1402b80099dca5cbc207075c0"), zeros(11) + "\x02", 42,
			"'Twas brillig, and the slithy toves\nDid gyre and gimble in the wabe:\nAll mimsy were the borogoves,\nAnd the mome raths outgrabe.",
			"62e6347f95ed87a45ffae7426f27a1df5fb69110044c0d73118effa95b01e5cf166d3df2d721caf9b21e5fb14c616871fd84c54f9d65b283196c7fe4f60553ebf39c6402c42234e32a356b3e764312a61a5532055716ead6962568f87d3f3f7704c6a8d1bcd1bf4d50d6154b6da731b187b58dfd728afa36757a797ac188d1"},
	} {
		if u := turn(t, v.key, v.nonce, v.n, v.text); u != unhex(t, v.want) {
			t.Errorf("%q: got %x, want %s", v.text, u, v.want)
		}
		if u := turn(t, v.key, v.nonce, v.n, unhex(t, v.want)); u != v.text {
			t.Errorf("turned back: got %q, want %q", u, v.text)
		}
	}
}

func isFold(t *testing.T, what, want string, texts func(put func(string))) {
	t.Helper()
	fold := sha256.New()
	texts(func(s string) { fold.Write([]byte(s)) })
	if d := hex.EncodeToString(fold.Sum(nil)); d != want {
		t.Errorf("%s: got %s, want %s", what, d, want)
	}
}

// cut are a key, a number and a nonce of 48 bytes, as they stand in a block's words.
func cut(s string) (key, nonce string, n uint32) {
	return s[:32], s[36:], binary.LittleEndian.Uint32([]byte(s[32:36]))
}

func blockOfCut(t *testing.T, s string) string {
	t.Helper()
	key, nonce, n := cut(s)
	return block(t, key, nonce, n)
}

// TestFoldedBlocks: blocks of keys, nonces and numbers in which one bit is
// another one than all the rest, and of many others, as OpenSSL made them.
func TestFoldedBlocks(t *testing.T) {
	oneBit := func(rest byte) func(func(string)) {
		return func(put func(string)) {
			for bit := range 48 * 8 {
				b := []byte(strings.Repeat(string([]byte{rest}), 48))
				b[bit/8] ^= 1 << (bit % 8)
				put(blockOfCut(t, string(b)))
			}
		}
	}
	isFold(t, "one bit", "7f503cb968a6caf3233f52882551a3e13b0280cfa54793796b936fc13ccb83cf", oneBit(0))
	isFold(t, "all bits but one", "6a392765aa5c4398f26347a744baf552283fba5b8f2ff90dd262700535a6fcee", oneBit(255))
	isFold(t, "blocks", "b32892782b38c5a89829983350734432a386b5dd6c73bb1e9f41c3a3fc854ca0", func(put func(string)) {
		for i := range 2000 {
			put(block(t, stepped(32, 11+i/7, i), stepped(12, 7, i*3), uint32(i)*2654435761))
		}
	})
	isFold(t, "the greatest numbers", "d61889c323d5afcfc3a025333d180047e902353c37c245f22e4edbfffd70cad2", func(put func(string)) {
		for i := range 2000 {
			put(block(t, stepped(32, 11, i), stepped(12, 7, i*3), greatest-uint32(i)))
		}
	})
}

// lastFor is the greatest number from which on count bytes have their blocks.
func lastFor(count int) uint32 {
	return greatest - uint32(max(0, count-1)/64)
}

// TestFoldedTexts: texts of all small lengths, among the first blocks and among
// the last ones, and long ones, as OpenSSL made them.
func TestFoldedTexts(t *testing.T) {
	isFold(t, "texts", "6c8018b1035720551f58b5a334d3cc32c96d5b061c7c84871a6994bfcd436c91", func(put func(string)) {
		for n := range 700 {
			put(turn(t, stepped(32, 11, n), stepped(12, 7, n*3), uint32(n*n), stepped(n, 5, n)))
		}
	})
	isFold(t, "texts at the end", "710651d3b693671384cc872944cb449c45acc02f812bb61de5e6156ba42f2466", func(put func(string)) {
		for n := range 700 {
			put(turn(t, stepped(32, 11, n), stepped(12, 7, n*3), lastFor(n), stepped(n, 5, n)))
		}
	})
	up := stepped(32, 1, 0)
	isFold(t, "a long text, to the end", "fe4381380a039b12e8b6d29a61c948991770d92df088a5fb9d7d92ea61666257", func(put func(string)) {
		put(turn(t, up, up[:12], 1<<32-1<<14, stepped(1<<20, 3, 1)))
	})
	isFold(t, "a long text", "bce510eaaad6e2e694f43802b16f28fbc294951181fec5fcc517fbbb18826f30", func(put func(string)) {
		put(turn(t, up, up[:12], 65535, stepped(1<<20-1, 3, 1)))
	})
}

func TestBlock(t *testing.T) {
	for seed := range int64(3000) {
		key, nonce, n := cut(some(48, seed))
		if b, want := block(t, key, nonce, n), wantBlock(key, nonce, n); b != want {
			t.Errorf("key %x, nonce %x, %d: got %x, want %x", key, nonce, n, b, want)
		}
	}
}

func TestTurn(t *testing.T) {
	for count := range 400 {
		key, nonce, inner := cut(some(48, int64(count)))
		text := some(count, int64(count)+1)
		for _, n := range []uint32{0, 1, inner, lastFor(count)} {
			if u, want := turn(t, key, nonce, n, text), wantTurned(key, nonce, n, text); u != want {
				t.Errorf("%d bytes from block %d on: got %x, want %x", count, n, u, want)
			}
		}
	}
	for i := 1; i < 60; i++ {
		for _, count := range []int{64*i - 1, 64 * i, 64*i + 1} {
			key, nonce, n := cut(some(48, int64(count)))
			text := some(count, int64(i))
			if turn(t, key, nonce, n, text) != wantTurned(key, nonce, n, text) {
				t.Errorf("%d bytes from block %d on", count, n)
			}
		}
	}
}

// TestTurnOfZeros: bytes 0 are turned to the blocks, one behind the other.
func TestTurnOfZeros(t *testing.T) {
	key, nonce, inner := cut(some(48, 1))
	for _, n := range []uint32{0, 1, 255, 256, 65535, inner, 1<<31 - 3, greatest - 7} {
		all := ""
		for i := range uint32(8) {
			all += block(t, key, nonce, n+i)
		}
		for count := range len(all) + 1 {
			if turn(t, key, nonce, n, zeros(count)) != all[:count] {
				t.Fatalf("%d bytes 0 from block %d on", count, n)
			}
		}
	}
}

// TestLengths: P8.1 and P8.2, keys and nonces of every other small length.
func TestLengths(t *testing.T) {
	for k := range 100 {
		for c := range 50 {
			if k == 32 && c == 12 {
				continue
			}
			key, nonce := some(k, 1), some(c, 2)
			for _, n := range []uint32{0, 1, greatest} {
				isNoBlock(t, key, nonce, n)
				for _, count := range []int{0, 1, 64, 65, 200} {
					isNotTurned(t, key, nonce, n, zeros(count), api.ErrArg)
				}
			}
		}
	}
	for _, size := range []int{256, 256 + 12, 256 + 32, 1 << 16, 1<<16 + 12, 1<<16 + 32} {
		isNoBlock(t, zeros(size), zeros(12), 0)
		isNoBlock(t, zeros(32), zeros(size), 0)
		isNotTurned(t, zeros(size), zeros(12), 0, "text", api.ErrArg)
		isNotTurned(t, zeros(32), zeros(size), 0, "text", api.ErrArg)
	}
}

// TestBound: P8.2, texts up to the last block, and beyond it.
func TestBound(t *testing.T) {
	key, nonce, _ := cut(some(48, 1))
	for _, blocks := range []int{1, 2, 3, 10, 255, 256, 257, 1024, 20000} {
		n := greatest - uint32(blocks-1)
		room := 64 * blocks
		for _, count := range []int{0, 1, 63, 64, room - 64, room - 63, room - 1, room} {
			if count <= room {
				turn(t, key, nonce, n, zeros(count))
			}
		}
		for _, count := range []int{room + 1, room + 2, room + 63, room + 64, room + 65, room + 1000, 2*room + 1} {
			isNotTurned(t, key, nonce, n, zeros(count), api.ErrLong)
			turn(t, key, nonce, n-uint32((count-room+63)/64), zeros(count))
		}
	}
	for count := range 200 {
		if count <= 64 {
			turn(t, key, nonce, greatest, some(count, 3))
		} else {
			isNotTurned(t, key, nonce, greatest, some(count, 3), api.ErrLong)
		}
	}
}

// TestTurnOfTurn: P8.3.
func TestTurnOfTurn(t *testing.T) {
	for count := range 300 {
		key, nonce, inner := cut(some(48, int64(count)))
		text := some(count, int64(count)+5)
		for _, n := range []uint32{0, inner, lastFor(count)} {
			if turn(t, key, nonce, n, turn(t, key, nonce, n, text)) != text {
				t.Errorf("%d bytes from block %d on are not turned back", count, n)
			}
		}
	}
	for _, count := range []int{1 << 16, 1<<16 + 1, 1<<20 - 1} {
		text := some(count, 1)
		u := turn(t, zeros(32), zeros(12), 1, text)
		if u == text || turn(t, zeros(32), zeros(12), 1, u) != text {
			t.Errorf("%d bytes are not turned, and turned back", count)
		}
	}
}

// TestParts: P8.3, parts that are cut at a block's end are turned as the whole is.
func TestParts(t *testing.T) {
	for seed := range int64(60) {
		key, nonce, inner := cut(some(48, seed))
		text := some(450+int(seed), seed)
		for _, n := range []uint32{0, inner, lastFor(len(text))} {
			whole := turn(t, key, nonce, n, text)
			for i := 0; 64*i < len(text); i++ {
				ahead := turn(t, key, nonce, n, text[:64*i])
				behind := turn(t, key, nonce, n+uint32(i), text[64*i:])
				if ahead+behind != whole {
					t.Fatalf("seed %d: from block %d on, cut at block %d", seed, n, i)
				}
			}
		}
	}
}

// TestPlaces: P8.3, what stands at a place hangs on no other byte, nor on how
// many there are.
func TestPlaces(t *testing.T) {
	key, nonce, n := cut(some(48, 1))
	text := some(200, 2)
	whole := turn(t, key, nonce, n, text)
	for i := range text {
		if turn(t, key, nonce, n, text[:i]) != whole[:i] {
			t.Errorf("the first %d bytes by themselves", i)
		}
		for _, by := range []byte{1, 128, 255} {
			other, want := []byte(text), []byte(whole)
			other[i] ^= by
			want[i] ^= by
			if turn(t, key, nonce, n, string(other)) != string(want) {
				t.Errorf("byte %d, exclusive or %d", i, by)
			}
		}
	}
}

// TestNothingIsKept: R6, an answer hangs on nothing that was asked before.
func TestNothingIsKept(t *testing.T) {
	key, nonce, n := cut(some(48, 1))
	text := some(300, 2)
	b, u := block(t, key, nonce, n), turn(t, key, nonce, n, text)
	isNoBlock(t, key[1:], nonce, n)
	isNotTurned(t, key, nonce[1:], n, text, api.ErrArg)
	isNotTurned(t, key, nonce, greatest, text, api.ErrLong)
	block(t, zeros(32), nonce, n+1)
	turn(t, zeros(32), nonce, greatest, text[:64])
	if block(t, key, nonce, n) != b || turn(t, key, nonce, n, text) != u {
		t.Error("the same call answers something else")
	}
}
