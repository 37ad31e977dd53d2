package policy_test

import (
	"fmt"
	"math/rand"
	"strconv"
	"strings"
	"testing"

	"isthmus/api"
	"isthmus/policy"
)

// lines are such as may be, of all kinds, if what ahead tells is told.
func lines() []string {
	return []string{
		"group g = a", "group g = a b c", "tag t = a", "tag t = a b c", "host h = 10.0.0.0/8", "host h = fd00::/8",
		"accept any from * to *", "accept tcp from * user:a to *", "accept icmp,udp from * to user:a net:10.0.0.0/8 *",
		"accept any from * to * ports 80", "accept any from group:o tag:o to host:o group:o ports 80 81-82 0-65535",
	}
}

const ahead = "group o = a\ntag o = a\nhost o = 10.0.0.0/8\n"

// vocabulary are words of all kinds, and such as are of none.
func vocabulary() []string {
	return []string{
		"group", "tag", "host", "accept", "=", "from", "to", "ports", "any", "tcp", "tcp,udp", "udp,tcp", "*", "a", "A", "o", "user:a", "user:A", "group:o", "group:q", "tag:o", "tag:q", "host:o", "host:q",
		"net:10.0.0.0/8", "net:10.0.0.1/8", "net:fd00::/8", "10.0.0.0/8", "10.0.0.1/8", "fd00::/8", "80", "080", "80-81", "81-80", "#", "#a", "a#", "==", ":", "-", ",", "\r", "\x00",
	}
}

// TestCut: P19.2, each line without its last words: the word that is wanting, if one is.
func TestCut(t *testing.T) {
	for _, line := range lines() {
		words := strings.Fields(line)
		for n := range words {
			text := ahead + strings.Join(words[:n], " ")
			isParsed(t, text)
			isParsed(t, text+" # "+strings.Join(words[n:], " "))
			isParsed(t, text+"\n"+strings.Join(words[n:], " "))
		}
		isFine(t, ahead+line)
		isFine(t, ahead+line+"\n")
	}
	for text, word := range map[string]int{
		"group": 1, "group a": 2, "group a =": 3, "tag": 1, "tag a": 2, "tag a =": 3, "host": 1, "host a": 2, "host a =": 3, "accept": 1, "accept any": 2,
		"accept any from": 3, "accept any from *": 4, "accept any from * user:a": 5, "accept any from * to": 5, "accept any from * to * ports": 7, "accept any from * to * * ports": 8,
	} {
		isFault(t, text, api.ErrWord, 1, word)
		isFault(t, "\n"+text+" \t# a b c\n", api.ErrWord, 2, word)
	}
}

// TestOneWord: P19.2, each line with another word in the place of each, and ahead of each.
func TestOneWord(t *testing.T) {
	for _, line := range lines() {
		words := strings.Fields(line)
		for at := range len(words) + 1 {
			for _, word := range vocabulary() {
				isParsed(t, ahead+join(words[:at], word, words[at:]))
				if at < len(words) {
					isParsed(t, ahead+join(words[:at], word, words[at+1:]))
					isParsed(t, join(words[:at], word, words[at+1:]))
				}
			}
		}
	}
}

func join(first []string, word string, rest []string) string {
	return strings.Join(first, " ") + " " + word + " " + strings.Join(rest, " ")
}

// TestWrongWord: P19.2, the errors of words, by their places.
func TestWrongWord(t *testing.T) {
	for text, want := range map[string]api.Fault{
		"nothing": {Err: api.ErrWord, Word: 0}, "Group a = b": {Err: api.ErrWord, Word: 0}, "groups a = b": {Err: api.ErrWord, Word: 0}, "= a": {Err: api.ErrWord, Word: 0}, "from": {Err: api.ErrWord, Word: 0}, "\r": {Err: api.ErrWord, Word: 0},
		"group a b": {Err: api.ErrWord, Word: 2}, "group a == b": {Err: api.ErrWord, Word: 2}, "group a =b": {Err: api.ErrWord, Word: 2}, "group a=b": {Err: api.ErrLabel, Word: 1}, "group = a": {Err: api.ErrLabel, Word: 1},
		"group a = B": {Err: api.ErrLabel, Word: 3}, "group a = b B": {Err: api.ErrLabel, Word: 4}, "group a = b,c": {Err: api.ErrLabel, Word: 3}, "group a = b = c": {Err: api.ErrLabel, Word: 4}, "group a = user:b": {Err: api.ErrLabel, Word: 3},
		"tag T = b": {Err: api.ErrLabel, Word: 1}, "tag a b": {Err: api.ErrWord, Word: 2}, "tag a = b *": {Err: api.ErrLabel, Word: 4},
		"host H = ::/0": {Err: api.ErrLabel, Word: 1}, "host h ::/0": {Err: api.ErrWord, Word: 2}, "host h = x": {Err: api.ErrNet, Word: 3}, "host h = 10.0.0.1": {Err: api.ErrNet, Word: 3}, "host h = 10.0.0.0/33": {Err: api.ErrNet, Word: 3}, "host h = net:::/0": {Err: api.ErrNet, Word: 3}, "host h = ::/0 ::/0": {Err: api.ErrWord, Word: 4}, "host h = ::/00": {Err: api.ErrNet, Word: 3},
		"accept from * to *": {Err: api.ErrProto, Word: 1}, "accept ANY from * to *": {Err: api.ErrProto, Word: 1}, "accept any to * from *": {Err: api.ErrWord, Word: 2}, "accept tcp udp from * to *": {Err: api.ErrWord, Word: 2}, "accept tcp, udp from * to *": {Err: api.ErrProto, Word: 1},
		"accept any from to *": {Err: api.ErrSel, Word: 3}, "accept any from ann to *": {Err: api.ErrSel, Word: 3}, "accept any from * ann to *": {Err: api.ErrSel, Word: 4}, "accept any from * user:A to *": {Err: api.ErrSel, Word: 4}, "accept any from * to": {Err: api.ErrWord, Word: 5},
		"accept any from * to to": {Err: api.ErrSel, Word: 5}, "accept any from * to ports 80": {Err: api.ErrSel, Word: 5}, "accept any from * to * x": {Err: api.ErrSel, Word: 6}, "accept any from * to * 80": {Err: api.ErrSel, Word: 6}, "accept any from * to * to *": {Err: api.ErrSel, Word: 6}, "accept any from * ports 80 to *": {Err: api.ErrSel, Word: 4},
		"accept any from * to * ports *": {Err: api.ErrRange, Word: 7}, "accept any from * to * ports 80 x": {Err: api.ErrRange, Word: 8}, "accept any from * to * ports 80,81": {Err: api.ErrRange, Word: 7}, "accept any from * to * ports 80 ports 81": {Err: api.ErrRange, Word: 8}, "accept any from * to * ports any": {Err: api.ErrRange, Word: 7},
	} {
		isFault(t, text, want.Err, 1, want.Word)
		isFault(t, "# first\n\n \t\n\t"+strings.ReplaceAll(text, " ", "\t ")+"\nnothing else", want.Err, 4, want.Word)
	}
}

// TestFirstFault: P19.2, of several faults the first, by lines and words; unknown ones
// behind all.
func TestFirstFault(t *testing.T) {
	isFault(t, "group A B", api.ErrLabel, 1, 1)
	isFault(t, "group a b\ngroup A = b", api.ErrWord, 1, 2)
	isFault(t, "group a = b\ngroup a b", api.ErrTwice, 2, 1)
	isFault(t, "group a = b\ngroup a", api.ErrTwice, 2, 1)
	isFault(t, "group a = b\ngroup a = B", api.ErrTwice, 2, 1)
	isFault(t, "accept any from tag:x to *\nnothing", api.ErrWord, 2, 0)
	isFault(t, "accept any from tag:x to", api.ErrWord, 1, 5)
	isFault(t, "accept udp,udp from x to y", api.ErrProto, 1, 1)
	isFault(t, "accept any from group:x group:X to *", api.ErrSel, 1, 4)
}

// TestBlanks: P19.2, blanks of both kinds wherever they may be, and bytes that are none.
func TestBlanks(t *testing.T) {
	for _, line := range lines() {
		plain := isFine(t, ahead+line)
		for _, blank := range []string{"\t", "  ", " \t ", "\t\t", strings.Repeat(" ", 500)} {
			text := strings.ReplaceAll(line, " ", blank)
			for _, text := range []string{text, blank + text, text + blank, blank + text + blank + "\n" + blank, text + blank + "# more", text + blank + "#" + blank + "x"} {
				if p := isFine(t, ahead+text); !same(p, plain) {
					t.Errorf("%q: %v, want %v", text, p, plain)
				}
			}
		}
		for b := range 256 {
			c := string([]byte{byte(b)})
			isParsed(t, ahead+strings.Replace(line, " ", c, 1))
			isParsed(t, ahead+strings.ReplaceAll(line, " ", c))
			isParsed(t, ahead+line+c)
			isParsed(t, ahead+c+line)
			isParsed(t, ahead+line+" "+c)
			isParsed(t, ahead+c+" "+line)
		}
	}
	for _, blank := range []string{"\r", "\v", "\f", "\x00", "\xa0", "\u00a0", "\u2003", "\u0085", "\u2028"} {
		isFault(t, strings.ReplaceAll("group a = b", " ", blank), api.ErrWord, 1, 0)
		isFault(t, "group a = b "+blank, api.ErrLabel, 1, 4)
		isFault(t, "group a = b"+blank+"\n", api.ErrLabel, 1, 3)
		isFault(t, blank, api.ErrWord, 1, 0)
	}
}

// TestRemarks: P19.2, what a word that begins with # takes with it, and what not.
func TestRemarks(t *testing.T) {
	for _, text := range []string{"#", "# a", "#a b", " #", "\t#\t", "# group a = b", "#\n#\n", "##", "# \x00\xff"} {
		if p := isFine(t, text); !same(p, api.Policy{}) {
			t.Errorf("%q: %v", text, p)
		}
	}
	p := isFine(t, "group a = b #c d\n#group b = c\ngroup c = d # = e\n")
	if !same(p, api.Policy{Groups: []api.Named{named("a", "b"), named("c", "d")}}) {
		t.Errorf("with remarks: %v", p)
	}
	isFault(t, "group a = b#c", api.ErrLabel, 1, 3)
	isFault(t, "group a = #b", api.ErrWord, 1, 3)
	isFault(t, "group # a = b", api.ErrWord, 1, 1)
	isFault(t, "accept any from * # to *", api.ErrWord, 1, 4)
	isFault(t, "accept any from * to * ports #80", api.ErrWord, 1, 7)
	for _, line := range lines() {
		for at := range len(line) + 1 {
			isParsed(t, ahead+line[:at]+"#"+line[at:])
			isParsed(t, ahead+line[:at]+" # "+line[at:])
		}
	}
}

// TestLines: P19.2, lines without words count, though they say nothing.
func TestLines(t *testing.T) {
	for _, text := range []string{"", "\n", "\n\n", " ", "\t", " \n\t", "\n \n"} {
		if p := isFine(t, text); !same(p, api.Policy{}) {
			t.Errorf("%q: %v", text, p)
		}
	}
	for n := range 200 {
		isFault(t, strings.Repeat("\n", n)+"x", api.ErrWord, n+1, 0)
		isFault(t, strings.Repeat("# y\n", n)+"x\n", api.ErrWord, n+1, 0)
		isFault(t, strings.Repeat(" \n", n)+"accept any from tag:x to *\n\n", api.ErrUnknown, n+1, 3)
	}
	isFault(t, strings.Repeat("\n", maxText-1)+"x", api.ErrWord, maxText, 0)
	isFault(t, "group a\n= b", api.ErrWord, 1, 2)
	isFine(t, "group a = b\ngroup b = c")
	isFault(t, "group a = b\r\ngroup b = c\r\n", api.ErrLabel, 1, 3)
}

// TestRows: P19.2, all rows of up to five words of some, as one line and as two.
func TestRows(t *testing.T) {
	some := []string{"group", "host", "accept", "=", "any", "from", "to", "*", "a", "::/0", "ports", "7"}
	rows := []string{""}
	for n := range 5 {
		var next []string
		for _, row := range rows {
			for _, w := range some {
				next = append(next, row+" "+w)
			}
		}
		for _, row := range next {
			isParsed(t, row)
			if n < 3 {
				isParsed(t, "group a = a\n"+row)
				isParsed(t, "accept any from "+row)
				isParsed(t, "accept any from * to "+row)
				isParsed(t, "accept any from * to * ports"+row)
				isParsed(t, "group b ="+row)
			}
		}
		rows = next
	}
}

// TestProtos: P19.2, all rows of up to four names, with commas between.
func TestProtos(t *testing.T) {
	right := map[string][]uint8{
		"any": nil, "icmp": {1}, "tcp": {6}, "udp": {17}, "icmp,tcp": {1, 6}, "icmp,udp": {1, 17}, "tcp,udp": {6, 17}, "icmp,tcp,udp": {1, 6, 17},
	}
	is := func(word string) {
		t.Helper()
		text := "accept " + word + " from * to *"
		want, may := right[word]
		if !may {
			isFault(t, text, api.ErrProto, 1, 1)
			return
		}
		if p := isFine(t, text); len(p.Acls) != 1 || string(p.Acls[0].Protos) != string(want) {
			t.Errorf("%q: %v", text, p)
		}
	}
	rows := []string{"any", "icmp", "tcp", "udp", "", "ICMP", "sctp", "icmp6", "6"}
	for _, a := range rows {
		if a == "" {
			a = ","
		}
		is(a)
		for _, b := range rows {
			is(a + "," + b)
			is(a + ";" + b)
			is(a + "+" + b)
			for _, c := range rows {
				is(a + "," + b + "," + c)
				for _, d := range rows {
					is(a + "," + b + "," + c + "," + d)
				}
			}
		}
	}
	for word := range right {
		for at := range len(word) + 1 {
			for b := range 256 {
				if c := byte(b); c != ' ' && c != '\t' && c != '\n' && (c != '#' || at > 0) {
					is(word[:at] + string([]byte{c}) + word[at:])
				}
			}
		}
	}
}

// isRange: P19.2, whether a word is a range, and which.
func isRange(t *testing.T, word string, from, to int, may bool) {
	t.Helper()
	p, f := policy.Parse("accept any from * to * ports 7 " + word)
	if !may {
		if f != (api.Fault{Err: api.ErrRange, Line: 1, Word: 8}) {
			t.Errorf("%q: %v", word, f)
		}
		return
	}
	if f.Err != api.OK || len(p.Acls) != 1 || len(p.Acls[0].Ports) != 2 || p.Acls[0].Ports[1] != (api.Ports{From: uint16(from), To: uint16(to)}) {
		t.Errorf("%q: %v, %v", word, p, f)
	}
}

// TestRanges: P19.2, P19.3, each number, each two around the edges, and other forms.
func TestRanges(t *testing.T) {
	for n := range 70000 {
		s := strconv.Itoa(n)
		isRange(t, s, n, n, n < 65536)
		isRange(t, "0"+s, 0, 0, false)
		isRange(t, s+"-"+s, n, n, n < 65536)
		isRange(t, "400-"+s, 400, n, n >= 400 && n < 65536)
		isRange(t, s+"-400", n, 400, n <= 400)
	}
	edges := []int{0, 1, 2, 9, 10, 11, 99, 100, 32767, 32768, 65534, 65535, 65536, 65537, 131072, 1 << 32, 1 << 62}
	for _, a := range edges {
		for _, b := range edges {
			isRange(t, fmt.Sprintf("%d-%d", a, b), a, b, a <= b && b < 65536)
		}
	}
	for _, s := range []string{
		"-", "1-", "-1", "1--2", "1-2-3", "-1-2", "1-2-", "+1", "1-+2", "+1-2", "1_0", "0x1", "1e1", "1.0", "00", "01", "1-02", "01-2", "0-00", "１", "1,2", "1:2", "1-2,3", "65536", "99999", "100000", "0-65536",
		"18446744073709551616", "18446744073709551617-18446744073709551618", "4294967297", "65537", "1-65537", "a", "1a", "a1", "*", "any", "x-y", strings.Repeat("0", 400), strings.Repeat("9", 400), "1\x00", "1\r",
	} {
		isRange(t, s, 0, 0, false)
	}
	p := isFine(t, "accept any from * to * ports 5-5 0-0 65535-65535 5-6")
	if s, err := policy.Text(p); s != "accept any from * to * ports 5 0 65535 5-6\n" || err != api.OK {
		t.Errorf("as shortest: %q, %v", s, err)
	}
	for _, word := range []string{"0", "80", "65535", "80-81", "0-65535"} {
		for at := range len(word) + 1 {
			for b := range 256 {
				isParsed(t, "accept any from * to * ports "+word[:at]+string([]byte{byte(b)})+word[at:])
				if at < len(word) {
					isParsed(t, "accept any from * to * ports "+word[:at]+string([]byte{byte(b)})+word[at+1:])
				}
			}
		}
	}
}

// TestSels: P19.2, selectors of every kind, with names and prefixes that may be or not.
func TestSels(t *testing.T) {
	kinds := []string{"user:", "group:", "tag:", "host:", "net:", "", ":", "User:", "users:", "acl:", "user::", "user", "*:", "*", "net"}
	rests := []string{"", "o", "O", "1", "a.b", "a:b", "*", "q", strings.Repeat("o", 32), strings.Repeat("o", 33), "10.0.0.0/8", "10.0.0.1/8", "10.0.0.0", "::/0", "fd00::/8", "FD00::/8", "fd00::1/128", "fd00::1/127", "0.0.0.0/0", "0.0.0.0/33", "1.2.3.4/32"}
	for _, kind := range kinds {
		for _, rest := range rests {
			isParsed(t, ahead+"accept any from "+kind+rest+" to *")
			isParsed(t, ahead+"accept any from * to * "+kind+rest+" ports 1")
		}
	}
	p := isFine(t, ahead+"accept any from * user:o group:o tag:o host:o net:::/0 net:1.2.3.4/32 to *")
	want := []api.Sel{{Kind: 1}, {Kind: 2, Name: "o"}, {Kind: 3, Name: "o"}, {Kind: 4, Name: "o"}, {Kind: 5, Name: "o"}, {Kind: 6, Net: net(t, "::/0")}, {Kind: 6, Net: net(t, "1.2.3.4/32")}}
	if !same(api.Policy{Acls: p.Acls}, api.Policy{Acls: []api.Acl{{Src: want, Dst: want[:1]}}}) {
		t.Errorf("of every kind: %v", p.Acls)
	}
	for _, word := range []string{"user:", "group:", "tag:", "host:", "net:", "user:O", "user:a:b", "net:10.0.0.1/8", "net:o", "**", "user:*", ":o", "o", "User:o", strings.Repeat("x", 4000)} {
		isFault(t, ahead+"accept any from "+word+" to *", api.ErrSel, 4, 3)
		isFault(t, ahead+"accept any from * to * "+word, api.ErrSel, 4, 6)
	}
}

// TestTwice: P19.2, the second of one name, of each kind; kinds do not meet, and users
// may stand in a list twice.
func TestTwice(t *testing.T) {
	rest := map[string]string{"group": " = a", "tag": " = a", "host": " = ::/0"}
	for one := range rest {
		for two := range rest {
			for _, name := range []string{"x", "y"} {
				text := one + " x" + rest[one] + "\n\n" + two + " " + name + rest[two]
				if one == two && name == "x" {
					isFault(t, text, api.ErrTwice, 3, 1)
					isFault(t, text+"\nnothing", api.ErrTwice, 3, 1)
					isFault(t, "host z = ::/0\n"+text, api.ErrTwice, 4, 1)
					continue
				}
				isFine(t, text)
			}
		}
	}
	isFine(t, "group x = x x x\ntag x = x x\nhost x = ::/0\naccept any from * * to * * ports 1 1\naccept any from * * to * * ports 1 1")
}

// row are so many words, each with a blank ahead of it.
func row(count int, word func(i int) string) string {
	var s strings.Builder
	for i := range count {
		s.WriteString(" " + word(i))
	}
	return s.String()
}

// TestManyWords: P19.2, the 64th and the 65th name, selector and range.
func TestManyWords(t *testing.T) {
	name := func(i int) string { return "n" + strconv.Itoa(i) }
	star := func(int) string { return "*" }
	for _, c := range []struct {
		head string
		word func(int) string
		tail string
		at   int
		err  api.Errno
	}{
		{"group a =", name, "", 3, api.ErrLabel}, {"tag a =", name, "", 3, api.ErrLabel}, {"group a =", func(int) string { return "u" }, "", 3, api.ErrLabel},
		{"accept any from", star, " to *", 3, api.ErrSel}, {"accept any from * to", star, "", 5, api.ErrSel}, {"accept any from * to", star, " ports 1", 5, api.ErrSel},
		{"accept any from * to * ports", strconv.Itoa, "", 7, api.ErrRange}, {"accept any from * to * ports", func(int) string { return "0-9" }, "", 7, api.ErrRange},
	} {
		for _, n := range []int{1, 2, 63, 64} {
			isFine(t, c.head+row(n, c.word)+c.tail)
		}
		for _, n := range []int{65, 66, 128, 129} {
			isFault(t, "\n"+c.head+row(n, c.word)+c.tail, api.ErrMany, 2, c.at+64)
		}
		isFault(t, c.head+row(65, c.word), api.ErrMany, 1, c.at+64)
		isFault(t, c.head+row(64, c.word)+" ?"+c.tail, c.err, 1, c.at+64)
		isFault(t, c.head+row(63, c.word)+" ?"+c.tail, c.err, 1, c.at+63)
		isFault(t, c.head+row(65, c.word)+" ?", api.ErrMany, 1, c.at+64)
	}
	isFine(t, "accept any from"+row(64, star)+" to"+row(64, star)+" ports"+row(64, strconv.Itoa))
	isFault(t, "accept any from"+row(64, star)+" tag:x to *", api.ErrMany, 1, 67)
	isFault(t, "accept any from tag:x"+row(64, star)+" to *", api.ErrMany, 1, 67)
}

// TestManyLines: P19.2, the 64th and the 65th line of each kind, whatever stands between.
func TestManyLines(t *testing.T) {
	rest := map[string]string{"group": " = a", "tag": " = a", "host": " = ::/0"}
	text := func(kind string, n int) string {
		var s strings.Builder
		for i := range n {
			if s.WriteString(kind); kind == "accept" {
				s.WriteString(" any from * to *\n")
				continue
			}
			s.WriteString(" n" + strconv.Itoa(i) + rest[kind] + "\n")
		}
		return s.String()
	}
	all := ""
	for _, kind := range []string{"group", "tag", "host", "accept"} {
		all += text(kind, 64)
		isFine(t, text(kind, 63))
		isFine(t, text(kind, 64))
		isFine(t, all)
		isFault(t, text(kind, 65), api.ErrMany, 65, 0)
		isFault(t, text(kind, 66), api.ErrMany, 65, 0)
		// The list is full at the first word: what stands behind it is not asked any more.
		for _, tail := range []string{"", " ", " n0", " n1 = a", " N", " x", " any", " any from", " udp,tcp", " any from x to y", " x = y ?", " # more"} {
			isFault(t, text(kind, 64)+kind+tail, api.ErrMany, 65, 0)
		}
		isFault(t, text(kind, 64)+"#"+kind+"\n\nnothing", api.ErrWord, 67, 0)
	}
	for _, kind := range []string{"group", "tag", "host", "accept"} {
		isFault(t, all+kind, api.ErrMany, 257, 0)
	}
	isFine(t, all+"# group\n")
}

// TestUnknown: P19.2, names that are not told, or of another kind, or only behind.
func TestUnknown(t *testing.T) {
	rest := map[string]string{"group": " = a", "tag": " = a", "host": " = ::/0"}
	for kind := range rest {
		for told := range rest {
			line := told + " x" + rest[told] + "\n"
			accept := "accept any from * " + kind + ":x to " + kind + ":x\n"
			for text, at := range map[string]int{line + accept: 2, accept + line: 1, accept + "# \n" + accept + line: 1, "accept any from user:x to *\n" + line + accept: 3} {
				if kind == told {
					isFine(t, text)
					continue
				}
				isFault(t, text, api.ErrUnknown, at, 4)
			}
		}
		isFault(t, "accept any from * to * "+kind+":x", api.ErrUnknown, 1, 6)
		isFault(t, ahead+"accept any from "+kind+":o to * "+kind+":oo", api.ErrUnknown, 4, 6)
		isFault(t, ahead+"accept any from "+kind+":o to "+kind+":p "+kind+":o\naccept any from tag:z to *", api.ErrUnknown, 4, 5)
	}
	isFine(t, "accept any from user:x to user:y net:::/0")
	isFault(t, "group g = x\naccept any from group:x to *", api.ErrUnknown, 2, 3)
	isFault(t, "accept any from host:b to tag:a\naccept any from group:c to *\nhost b = ::/0", api.ErrUnknown, 1, 5)
}

// TestLong: P19.2, P19.4, texts at the bound, and beyond, whatever they say.
func TestLong(t *testing.T) {
	for _, text := range []string{"", "x", "group a = b\n", sample} {
		for _, n := range []int{maxText - 1, maxText, maxText + 1, maxText + 2, 2 * maxText, 1 << 20} {
			for _, fill := range []string{" ", "\n", "#", "\t"} {
				long := text + strings.Repeat(fill, n-len(text))
				if n > maxText {
					isFault(t, long, api.ErrLong, 0, 0)
					continue
				}
				isParsed(t, long)
			}
		}
	}
	// Only the last line's end tells these apart.
	for extra := -3; extra <= 3; extra++ {
		text := wantText(sized(maxText + extra))
		for _, text := range []string{text, strings.TrimSuffix(text, "\n")} {
			isParsed(t, text)
			if p, f := policy.Parse(text); f.Err == api.OK {
				want := api.OK
				if extra > 0 {
					want = api.ErrLong
				}
				if err := policy.May(p); err != want {
					t.Errorf("of %d bytes: %v, want %v", len(text), err, want)
				}
			}
		}
	}
	p, f := policy.Parse(strings.TrimSuffix(wantText(sized(maxText+1)), "\n"))
	if s, err := policy.Text(p); f.Err != api.OK || s != "" || err != api.ErrLong {
		t.Errorf("a text at the bound without its last byte 10: %v, %d bytes, %v", f, len(s), err)
	}
}

// TestBytes: P19.2, the sample with each byte as each other one, without it, and with
// another one ahead of it; and each beginning and end of it.
func TestBytes(t *testing.T) {
	for at := range len(sample) {
		isParsed(t, sample[:at])
		isParsed(t, sample[at:])
		isParsed(t, sample[:at]+sample[at+1:])
		for b := range 256 {
			c := string([]byte{byte(b)})
			isParsed(t, sample[:at]+c+sample[at+1:])
			isParsed(t, sample[:at]+c+sample[at:])
		}
	}
}

// TestDrawnTexts: P19.2, P19.4, texts of words of all kinds, mostly such as may stand there.
func TestDrawnTexts(t *testing.T) {
	r := rand.New(rand.NewSource(4))
	some, words := lines(), vocabulary()
	counts := map[api.Errno]int{}
	for range 60000 {
		var text strings.Builder
		text.WriteString([]string{"", ahead, "host o = ::/0\n"}[r.Intn(3)])
		for range r.Intn(5) {
			line := strings.Fields(some[r.Intn(len(some))])
			for i := range line {
				if r.Intn(30) == 0 {
					line[i] = words[r.Intn(len(words))]
				}
				if line[i] == "g" || line[i] == "t" || line[i] == "h" {
					line[i] = string([]byte{byte('a' + r.Intn(26))})
				}
			}
			text.WriteString(strings.Join(line, []string{" ", "\t", "  "}[r.Intn(3)]) + "\n")
		}
		isParsed(t, text.String())
		_, f := policy.Parse(text.String())
		counts[f.Err]++
	}
	for _, err := range []api.Errno{api.OK, api.ErrWord, api.ErrLabel, api.ErrNet, api.ErrRange, api.ErrProto, api.ErrSel, api.ErrUnknown, api.ErrTwice} {
		if counts[err] < 100 {
			t.Errorf("%v was drawn %d times", err, counts[err])
		}
	}
}

// TestJunk: R1, bytes of no sense.
func TestJunk(t *testing.T) {
	r := rand.New(rand.NewSource(5))
	for n := range 3000 {
		s := make([]byte, n%400)
		r.Read(s)
		isParsed(t, string(s))
		for i := range s {
			s[i] = " \t\n#:=*-,/aguht0.x"[int(s[i])%18]
		}
		isParsed(t, string(s))
	}
	for _, s := range []string{"\x00", "\xff", "\xc3", " ", ":", "group", "*", "-", "/"} {
		isParsed(t, strings.Repeat(s, maxText/len(s)))
	}
}

func FuzzParse(f *testing.F) {
	f.Add(sample)
	for _, line := range lines() {
		f.Add(ahead + line)
	}
	f.Fuzz(func(t *testing.T, text string) { isParsed(t, text) })
}
