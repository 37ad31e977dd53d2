package kdf_test

import (
	"crypto/sha256"
	"encoding/hex"
	"math"
	"math/rand"
	"slices"
	"strings"
	"testing"

	"isthmus/api"
	"isthmus/blake"
	"isthmus/kdf"
)

const most = 255 * 32

// stepped are so many bytes, from one on by a step.
func stepped(count, step, from int) string {
	b := make([]byte, count)
	for i := range b {
		b[i] = byte(i*step + from)
	}
	return string(b)
}

func upwards(count int) string { return stepped(count, 1, 0) }

// some are so many bytes, the same ones in every run.
func some(count int, seed int64) string {
	b := make([]byte, count)
	rand.New(rand.NewSource(seed)).Read(b)
	return string(b)
}

func expand(t *testing.T, key, info string, n int) string {
	t.Helper()
	s, err := kdf.Expand(key, info, n)
	if err != api.OK || len(s) != n {
		t.Fatalf("Expand of a key of %d bytes, info of %d, %d: %d bytes, %v", len(key), len(info), n, len(s), err)
	}
	return s
}

func chain(t *testing.T, key, s string, n int) []string {
	t.Helper()
	l, err := kdf.Chain(key, s, n)
	if err != api.OK || len(l) != n {
		t.Fatalf("Chain of a key of %d bytes, %d bytes, %d: %d texts, %v", len(key), len(s), n, len(l), err)
	}
	return l
}

// isTag holds Hmac and Extract against the chapter.
func isTag(t *testing.T, key, s string) {
	t.Helper()
	want := wantTag(key, s)
	if d := kdf.Hmac(key, s); d != want {
		t.Errorf("Hmac, a key of %d bytes, %d bytes: got %x, want %x", len(key), len(s), d, want)
	}
	if d := kdf.Extract(key, s); d != want {
		t.Errorf("Extract, a salt of %d bytes, %d bytes: got %x, want %x", len(key), len(s), d, want)
	}
}

func isExpanded(t *testing.T, key, info string, n int) {
	t.Helper()
	if d, want := expand(t, key, info, n), wantBytes(key, info, n); d != want {
		t.Errorf("Expand, a key of %d bytes, info of %d, %d: got %x, want %x", len(key), len(info), n, d, want)
	}
}

func isChain(t *testing.T, key, s string) {
	t.Helper()
	for n := 1; n <= 3; n++ {
		if l, want := chain(t, key, s, n), wantTexts(key, s, n); !slices.Equal(l, want) {
			t.Errorf("Chain, a key of %d bytes, %d bytes, %d: got %x, want %x", len(key), len(s), n, l, want)
		}
	}
}

func TestExamples(t *testing.T) {
	if s := expand(t, "k", "i", 0); s != "" {
		t.Errorf("Expand to nothing: %x", s)
	}
	expand(t, "k", "i", most)
	isNotExpanded(t, "k", "i", most+1)
	isNotExpanded(t, "k", "i", -1)
	l := chain(t, "k", "s", 2)
	if len(l[0]) != 32 || len(l[1]) != 32 {
		t.Errorf("Chain of 2: %x", l)
	}
	isNoChain(t, "k", "s", 4)
	key := strings.Repeat("k", 65)
	if kdf.Hmac(key, "s") != kdf.Hmac(blake.Of(key), "s") {
		t.Error("Hmac of a key of 65 bytes is not that of its digest")
	}
}

// TestVectors: by keys 0, 1, 2 .., of texts 0, 1, 2 .., as CPython's hmac and
// hashlib made them.
func TestVectors(t *testing.T) {
	for _, v := range []struct {
		key, text int
		tag       string
	}{
		{0, 0, "eaf4bb25938f4d20e72656bbbc7a9bf63c0c18537333c35bdb67db1402661acd"},
		{0, 3, "76e35a07e2d397d088ab0555ccf434c033f23f2f86e8d72f458013b431dfbdc2"},
		{1, 1, "2c463acb9ef603333b173321a3ff0d7f7a562d569db0efb9a5cad61f6e0792cf"},
		{32, 0, "e2641d24dfa8dd89e8cb77f1cdc77d8c006e5bebdfc4d6a3a3a6f8d5b7586fb0"},
		{32, 32, "8d2cc42fc1055ea43277dfd5d35d3863b228f9cc0c02007dc2afb20907bd7312"},
		{63, 64, "8c8410ad3a4231a2266871d16724f397a05850e4d71f005e48433d739288d75d"},
		{64, 64, "16b4112bb7a7d3d85ee3baf8649046691596c5adab68f93ab0ebb4d798b8444d"},
		{64, 1, "da4136042156dca034e358293a0323acaed3c562fa20badf05937a282446d13d"},
		{65, 65, "e1f7e37ba19c6146025779f984d14a7a7c45a20e7855f11dbe4d9c871f8db8c5"},
		{65, 0, "019d0d4ece4de18d4db0fe1b3b13460ff4bca4ff2b08d86e50bb1c8a799643ae"},
		{128, 200, "1b7ad0f44ff3654523b015307aef1c4ab09a8705ba0bf6301d05752290315ca5"},
		{200, 63, "d6cc4f866a0e644616abcbfcaf50e1e82e8e07a5d8a58ebd7c6c489dd352e8fe"},
	} {
		if d := hex.EncodeToString([]byte(kdf.Hmac(upwards(v.key), upwards(v.text)))); d != v.tag {
			t.Errorf("Hmac, a key of %d bytes, %d bytes: got %s, want %s", v.key, v.text, d, v.tag)
		}
	}
	for _, v := range []struct {
		key, info, count int
		made             string
	}{
		{0, 0, 32, "88bc82e13fb03407c040dd36fdf32683e247787fc81c45f9135a01097be30495"},
		{32, 0, 96, "0eb5b63e94eb0ee56be66329386c25cca6d38e699ce487595a1bfa66e6968f3561818b51f03fb2f7f4d192762bc4ea19acd776ea922ca38b15f43ae8c5d55d2c6bd0fad29da0ceba93dc7ce48b80dc29dd57e41487078ca604299fecc47f0f22"},
		{32, 10, 42, "364b4d24302d1be0a990853a6f6f2f3c1c6d703bda2777d1351be9d9cd770905d626ad83da0a900b6c7f"},
		{65, 64, 100, "fcdc21e3ededbc47bf1ac6380a8b512f97d892bc8d694e4cbfbe2d84cfed8098a4ab84cebbc36ecfcdd98edc76342360ad99d25adf9ad7cecab5969c49243b1789ad7a391152bb415ab53f176ceccb962fd1c16c6033461b2b0152b7c82aa3c6b7da3a96"},
		{80, 80, 82, "52b511c06fabf7939c86aec42579d67e9ac4d9c9f369bcf75e1ccaf2cff2e47dfc3553d09e773bd880bfcc8b85d83a28db7db5a3c0f89974a8662032a8668b2e81739afee7f436ef3585b3f0f34697a74635"},
	} {
		if d := hex.EncodeToString([]byte(expand(t, upwards(v.key), upwards(v.info), v.count))); d != v.made {
			t.Errorf("Expand, a key of %d bytes, info of %d, %d: got %s, want %s", v.key, v.info, v.count, d, v.made)
		}
	}
	want := []string{
		"1fcf29000a27f12dc0691acf0f15bf4c55199f925d65441a3c08b566fce08d13",
		"704818f0cdc896cc3d7fe77c61f24e33db30aa69ef63758d5cfce8d6335c1b46",
		"7c46c5eddb1418694b9a599d7d5842039b4fbbf946e376bf59d19847342fee80",
	}
	for i, s := range chain(t, upwards(32), upwards(32), 3) {
		if d := hex.EncodeToString([]byte(s)); d != want[i] {
			t.Errorf("Chain, text %d: got %s, want %s", i, d, want[i])
		}
	}
}

// TestFolded: tags by keys and of texts of all small lengths, bytes of all small
// counts and the most that there are, and chains, as CPython's hmac and hashlib
// made them.
func TestFolded(t *testing.T) {
	isFold := func(what, want string, texts func(put func(string))) {
		fold := sha256.New()
		texts(func(s string) { fold.Write([]byte(s)) })
		if d := hex.EncodeToString(fold.Sum(nil)); d != want {
			t.Errorf("%s: got %s, want %s", what, d, want)
		}
	}
	isFold("tags", "da8387ad714210635909909579c4c2edf9a1e87e5a3fcf5f14df80a17d765b5a", func(put func(string)) {
		for k := range 131 {
			for n := range 131 {
				put(kdf.Hmac(stepped(k, 11, k*5+1), stepped(n, 7, n*13+k)))
			}
		}
	})
	isFold("bytes", "893fe937c63411cd246169da9ceb2df378fd9b6d2f032fa7b30354334cf7d1f0", func(put func(string)) {
		for n := range 301 {
			put(expand(t, stepped(n%97, 11, n), stepped(n%71, 7, n*3), n))
		}
	})
	isFold("the most bytes", "21fb330c6a28a9a3234a9c9e94305fdf5953cbf881b582110f4d26814a97ec07", func(put func(string)) {
		put(expand(t, upwards(32), upwards(10), most))
	})
	isFold("the most bytes, of nothing", "fbcfd1c20bc360b1d88bed4ce3501c377efea5a86aacbc4a8899fc23abe09a0d", func(put func(string)) {
		put(expand(t, "", "", most))
	})
	isFold("chains", "ad8e9bee364fe969d815bf1156407c5cfed9e26ccfe7148889aa5b368ed40d2d", func(put func(string)) {
		for k := range 70 {
			for n := 1; n <= 3; n++ {
				put(strings.Join(chain(t, stepped(k, 11, k), stepped(2*k, 7, k+n), n), ""))
			}
		}
	})
}

func TestTags(t *testing.T) {
	for _, k := range []int{0, 1, 2, 31, 32, 33, 63, 64, 65, 66, 127, 128, 129, 1000} {
		for n := range 135 {
			isTag(t, some(k, int64(k)), some(n, int64(n)+7))
		}
	}
	for k := range 200 {
		isTag(t, some(k, int64(k)), some(3*k, int64(k)))
		isTag(t, strings.Repeat("\x00", k), strings.Repeat("\xff", k))
	}
	isTag(t, some(100000, 1), some(100001, 2))
}

// TestKeyBlock: bytes 0 behind a key are the block's own, up to 64 bytes of it;
// a key that is longer is its digest.
func TestKeyBlock(t *testing.T) {
	for k := range 65 {
		key := some(k, int64(k))
		if kdf.Hmac(key, "text") != kdf.Hmac(key+strings.Repeat("\x00", 64-k), "text") {
			t.Errorf("a key of %d bytes is not that with bytes 0 up to 64", k)
		}
	}
	if key := some(64, 1); kdf.Hmac(key, "text") == kdf.Hmac(blake.Of(key), "text") || kdf.Hmac(key, "text") == kdf.Hmac(key+"\x00", "text") {
		t.Error("a key of 64 bytes is taken for a longer one")
	}
	for _, k := range []int{65, 66, 96, 128, 129, 5000} {
		key := some(k, int64(k))
		if kdf.Hmac(key, "text") != kdf.Hmac(blake.Of(key), "text") {
			t.Errorf("a key of %d bytes is not its digest", k)
		}
		if expand(t, key, "info", 70) != expand(t, blake.Of(key), "info", 70) {
			t.Errorf("Expand: a key of %d bytes is not its digest", k)
		}
		if !slices.Equal(chain(t, key, "text", 3), chain(t, blake.Of(key), "text", 3)) {
			t.Errorf("Chain: a key of %d bytes is not its digest", k)
		}
	}
}

func TestExpand(t *testing.T) {
	for n := range 200 {
		isExpanded(t, some(32, int64(n)), some(n%70, int64(n)), n)
	}
	for i := 1; i <= 255; i++ {
		for _, n := range []int{32*i - 1, 32 * i, min(32*i+1, most)} {
			isExpanded(t, some(i, int64(i)), some(i%40, int64(n)), n)
		}
	}
	for _, k := range []int{0, 1, 63, 64, 65, 1000} {
		for _, i := range []int{0, 1, 31, 32, 63, 64, 65, 1000} {
			isExpanded(t, some(k, int64(k)), some(i, int64(i)), 100)
		}
	}
}

// TestBeginning: P7.4, for small counts, the ends of tags, and some between.
func TestBeginning(t *testing.T) {
	all := expand(t, "key", "info", most)
	for n := range most {
		if n > 300 && n%32 > 1 && n%32 < 31 && n%37 != 0 {
			continue
		}
		if expand(t, "key", "info", n) != all[:n] {
			t.Fatalf("%d bytes are not the beginning of %d", n, most)
		}
	}
	for seed := range int64(40) {
		key, info := some(int(seed)*3, seed), some(int(seed), seed+1)
		more := expand(t, key, info, 130)
		for n := range 130 {
			if expand(t, key, info, n) != more[:n] {
				t.Fatalf("seed %d: %d bytes are not the beginning of 130", seed, n)
			}
		}
	}
}

func isNotExpanded(t *testing.T, key, info string, n int) {
	t.Helper()
	if s, err := kdf.Expand(key, info, n); s != "" || err != api.ErrArg {
		t.Errorf("Expand to %d: %d bytes, %v", n, len(s), err)
	}
}

func TestNotExpanded(t *testing.T) {
	for _, n := range []int{math.MinInt, math.MinInt + 1, math.MinInt32, -8160, -256, -33, -32, -2, -1,
		most + 1, most + 2, most + 31, most + 32, 8192, 1 << 16, 1<<16 + 32, math.MaxInt32, 1 << 32, 1<<32 + 32, math.MaxInt - 31, math.MaxInt} {
		for _, s := range []string{"", "k", some(64, 1), some(65, 2)} {
			isNotExpanded(t, s, s, n)
			isNotExpanded(t, s, "", n)
			isNotExpanded(t, "", s, n)
		}
	}
}

func TestChain(t *testing.T) {
	for k := range 135 {
		isChain(t, some(k, int64(k)), some(32, 1))
		isChain(t, some(32, 2), some(k, int64(k)))
		isChain(t, some(k, 3), some(k, 4))
	}
}

// TestChainIsExpanded: P7.3, by the package's own calls.
func TestChainIsExpanded(t *testing.T) {
	for seed := range int64(50) {
		key, s := some(int(seed)*2, seed), some(int(seed), seed+9)
		three := chain(t, key, s, 3)
		if all := strings.Join(three, ""); all != expand(t, kdf.Extract(key, s), "", 96) {
			t.Errorf("seed %d: %x", seed, all)
		}
		for n := 1; n <= 3; n++ {
			fewer := chain(t, key, s, n)
			if !slices.Equal(fewer, three[:n]) {
				t.Errorf("seed %d: %d texts are not the first ones of 3", seed, n)
			}
			for _, text := range fewer {
				if len(text) != 32 {
					t.Errorf("seed %d: a text of %d bytes", seed, len(text))
				}
			}
		}
	}
}

func isNoChain(t *testing.T, key, s string, n int) {
	t.Helper()
	if l, err := kdf.Chain(key, s, n); len(l) != 0 || err != api.ErrArg {
		t.Errorf("Chain of %d: %x, %v", n, l, err)
	}
}

func TestNoChain(t *testing.T) {
	for _, n := range []int{math.MinInt, math.MinInt + 1, math.MinInt32, -255, -3, -2, -1, 0, 4, 5, 32, 96, 255, 256, 257, 258, 259, 1 << 16,
		1 << 32, 1<<32 + 1, 1<<32 + 3, 1 << 59, 1<<59 + 1, 1<<59 + 3, math.MaxInt - 1, math.MaxInt} {
		for _, s := range []string{"", "k", some(65, 2)} {
			isNoChain(t, s, s, n)
			isNoChain(t, s, "", n)
			isNoChain(t, "", s, n)
		}
	}
}

// TestNothingIsKept: R5 and R6.
func TestNothingIsKept(t *testing.T) {
	first := chain(t, "key", "text", 3)
	made := expand(t, "key", "info", 100)
	tag := kdf.Hmac("key", "text")
	want := slices.Clone(first)
	first[0], first[2] = "changed", ""
	isNoChain(t, "key", "text", 4)
	isNotExpanded(t, "key", "info", -1)
	kdf.Hmac(some(70, 1), "other")
	if !slices.Equal(chain(t, "key", "text", 3), want) {
		t.Error("Chain hangs on what was done to an earlier answer")
	}
	if expand(t, "key", "info", 100) != made || kdf.Hmac("key", "text") != tag || kdf.Extract("key", "text") != tag {
		t.Error("the same call answers something else")
	}
}
