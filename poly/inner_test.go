package poly

import (
	"math/big"
	"math/rand"
	"slices"
	"strings"
	"testing"
)

var (
	prime  = new(big.Int).Sub(new(big.Int).Lsh(big.NewInt(1), 130), big.NewInt(5))
	two130 = new(big.Int).Lsh(big.NewInt(1), 130)
)

// whole is the number that a's parts make, not modulo the prime.
func whole(a number) *big.Int {
	n := new(big.Int)
	for i, part := range a {
		n.Add(n, new(big.Int).Lsh(new(big.Int).SetUint64(part), uint(26*i)))
	}
	return n
}

// parts are those of a number below 2^130, within their bits.
func parts(n *big.Int) number {
	var a number
	for i := range a {
		a[i] = new(big.Int).Rsh(n, uint(26*i)).Uint64() % (1 << 26)
	}
	return a
}

func modulo(n *big.Int) *big.Int { return new(big.Int).Mod(n, prime) }

// all has one part at each place.
func all(part uint64) number { return number{part, part, part, part, part} }

func random(r *rand.Rand, most uint64) number {
	var a number
	for i := range a {
		a[i] = r.Uint64() % (most + 1)
	}
	return a
}

func isWithin(t *testing.T, what string, a number, firstMore uint64) {
	t.Helper()
	for i, part := range a {
		most := uint64(1<<26 - 1)
		if i == 0 {
			most += firstMore
		}
		if part > most {
			t.Errorf("%s: part %d is %x", what, i, part)
		}
	}
}

func TestNumberOf(t *testing.T) {
	r := rand.New(rand.NewSource(1))
	for i := range 1000 {
		var p padded
		r.Read(p[:16])
		p[16] = byte(i % 2)
		if i < 4 {
			p = padded{16: byte(i % 2)}
			for j := range p[:16] {
				p[j] = byte(i / 2 * 255)
			}
		}
		b := p
		slices.Reverse(b[:])
		a := numberOf(p)
		if whole(a).Cmp(new(big.Int).SetBytes(b[:])) != 0 {
			t.Errorf("%x: %x", p, a)
		}
		isWithin(t, "numberOf", a, 0)
	}
}

// TestPieces: where the byte 1 stands, and which bits a factor has.
func TestPieces(t *testing.T) {
	for n := range 17 {
		text := make([]byte, n)
		if a := whole(marked(text)); a.Cmp(new(big.Int).Lsh(big.NewInt(1), uint(8*n))) != 0 {
			t.Errorf("%d bytes 0 and a byte 1: %x", n, a)
		}
		if a := whole(plain(string(text))); a.Sign() != 0 {
			t.Errorf("%d bytes 0: %x", n, a)
		}
	}
	if a := whole(factor(strings.Repeat("\xff", 16))).Text(16); a != "ffffffc0ffffffc0ffffffc0fffffff" {
		t.Errorf("a factor of all bits: %s", a)
	}
}

// TestTimes: parts as great as they may be, and others.
func TestTimes(t *testing.T) {
	r := rand.New(rand.NewSource(1))
	const mostA, mostB = 1<<28 - 1, 1<<26 - 1
	pairs := [][2]number{{all(mostA), all(mostB)}, {all(0), all(mostB)}, {all(mostA), all(0)}}
	for range 5000 {
		pairs = append(pairs, [2]number{random(r, mostA), random(r, mostB)})
	}
	for i := range count {
		for j := range count {
			var a, b number
			a[i], b[j] = mostA, mostB
			pairs = append(pairs, [2]number{a, b}, [2]number{a, all(mostB)}, [2]number{all(mostA), b})
		}
	}
	for _, p := range pairs {
		a, b := p[0], p[1]
		got := a.times(b)
		want := modulo(new(big.Int).Mul(whole(a), whole(b)))
		if modulo(whole(got)).Cmp(want) != 0 || a != p[0] || b != p[1] {
			t.Errorf("%x times %x: %x", a, b, got)
		}
		if whole(got).Cmp(two130) >= 0 {
			t.Errorf("%x times %x: %x is not below 2^130", a, b, got)
		}
		isWithin(t, "times", got, fold)
	}
}

// TestCarried: parts of up to 59 bits.
func TestCarried(t *testing.T) {
	r := rand.New(rand.NewSource(2))
	rows := []number{all(0), all(full), all(1<<59 - 1), {1<<59 - 1}, {4: 1<<59 - 1}, {full + 1, full, full, full, full}}
	for bits := range 60 {
		for range 50 {
			rows = append(rows, random(r, 1<<bits-1))
		}
	}
	for _, a := range rows {
		got := a.carried()
		if modulo(whole(got)).Cmp(modulo(whole(a))) != 0 || whole(got).Cmp(two130) >= 0 {
			t.Errorf("%x: %x", a, got)
		}
		isWithin(t, "carried", got, fold)
	}
}

func TestSettled(t *testing.T) {
	r := rand.New(rand.NewSource(3))
	for bits := range 60 {
		for range 50 {
			a := random(r, 1<<bits-1)
			got, above := a.settled()
			sum := new(big.Int).Mul(two130, new(big.Int).SetUint64(above))
			if sum.Add(sum, whole(got)).Cmp(whole(a)) != 0 {
				t.Errorf("%x: %x, above %x", a, got, above)
			}
			isWithin(t, "settled", got, 0)
		}
	}
}

// TestLeast: the numbers next to 0, to the prime and to 2^130, also with a first
// part above its bits, and others.
func TestLeast(t *testing.T) {
	r := rand.New(rand.NewSource(4))
	var rows []number
	for i := range int64(1000) {
		n := big.NewInt(i)
		rows = append(rows, parts(n), parts(new(big.Int).Sub(two130, n.Add(n, big.NewInt(1)))))
	}
	for range 1000 {
		rows = append(rows, random(r, full))
	}
	for more := range uint64(fold + 1) {
		for _, rest := range []uint64{0, 1, full - 1} {
			rows = append(rows, number{full + more, rest, full, full, full}, number{full + more, rest})
		}
	}
	for _, a := range rows {
		got := a.least()
		if whole(got).Cmp(modulo(whole(a))) != 0 {
			t.Errorf("%x: %x", a, got)
		}
		isWithin(t, "least", got, 0)
	}
}

// TestText: the lowest 16 bytes, also of parts above their bits.
func TestText(t *testing.T) {
	r := rand.New(rand.NewSource(5))
	rows := []number{all(0), all(full), all(2 * full), {full + 1}}
	for range 1000 {
		rows = append(rows, random(r, full), random(r, 2*full))
	}
	for _, a := range rows {
		want := make([]byte, 16)
		new(big.Int).Mod(whole(a), new(big.Int).Lsh(big.NewInt(1), 128)).FillBytes(want)
		slices.Reverse(want)
		if a.text() != string(want) {
			t.Errorf("%x: got %x, want %x", a, a.text(), want)
		}
	}
}
