package policy_test

import (
	"math/rand"
	"slices"
	"strings"
	"testing"

	"isthmus/api"
	"isthmus/ip"
	"isthmus/policy"
)

// sample is a text with all that may stand in one.
const sample = `# who there is
group dev = ann bob
tag web = ann
	group ops =	cy ann # and a remark

host h = 10.0.0.0/8
host six = fd00::/8
accept tcp,udp from group:dev net:10.0.0.0/8 to tag:web host:h ports 80 443-444
accept any from * to user:bob
accept icmp from group:ops host:six to net:fd00::/16 ports 0-65535
`

// net is the prefix of a text.
func net(t testing.TB, s string) api.Prefix {
	t.Helper()
	p, err := ip.ReadPrefix(s)
	if err != api.OK {
		t.Fatalf("%q is no prefix", s)
	}
	return p
}

// sampled is what the sample says.
func sampled(t testing.TB) api.Policy {
	return api.Policy{
		Groups: []api.Named{{Name: "dev", List: []string{"ann", "bob"}}, {Name: "ops", List: []string{"cy", "ann"}}},
		Tags:   []api.Named{{Name: "web", List: []string{"ann"}}},
		Hosts:  []api.HostName{{Name: "h", Net: net(t, "10.0.0.0/8")}, {Name: "six", Net: net(t, "fd00::/8")}},
		Acls: []api.Acl{
			{
				Protos: []uint8{api.TCP, api.UDP},
				Src:    []api.Sel{{Kind: api.SelGroup, Name: "dev"}, {Kind: api.SelNet, Net: net(t, "10.0.0.0/8")}},
				Dst:    []api.Sel{{Kind: api.SelTag, Name: "web"}, {Kind: api.SelHost, Name: "h"}},
				Ports:  []api.Ports{{From: 80, To: 80}, {From: 443, To: 444}},
			},
			{Src: []api.Sel{{Kind: api.SelAny}}, Dst: []api.Sel{{Kind: api.SelUser, Name: "bob"}}},
			{
				Protos: []uint8{api.ICMP},
				Src:    []api.Sel{{Kind: api.SelGroup, Name: "ops"}, {Kind: api.SelHost, Name: "six"}},
				Dst:    []api.Sel{{Kind: api.SelNet, Net: net(t, "fd00::/16")}},
				Ports:  []api.Ports{{From: 0, To: 65535}},
			},
		},
	}
}

// isParsed: P19.2, what a text says, or its fault; and P19.4 of what it says.
func isParsed(t *testing.T, text string) {
	t.Helper()
	p, f := policy.Parse(text)
	q, want := wantParse(text)
	if f != want || !same(p, q) {
		t.Fatalf("Parse(%q): %v, %v, want %v, %v", text, p, f, q, want)
	}
	if f.Err == api.OK {
		isTold(t, p)
	}
}

// isFault: P19.2, where a text is wrong.
func isFault(t *testing.T, text string, err api.Errno, line, word int) {
	t.Helper()
	p, f := policy.Parse(text)
	if f != (api.Fault{Err: err, Line: line, Word: word}) || !same(p, api.Policy{}) {
		t.Errorf("Parse(%q): %v, %v, want %v at %d, %d", text, p, f, err, line, word)
	}
	isParsed(t, text)
}

// isFine: P19.2, a text without a fault.
func isFine(t *testing.T, text string) api.Policy {
	t.Helper()
	p, f := policy.Parse(text)
	if f != (api.Fault{}) {
		t.Errorf("Parse(%q): %v", text, f)
	}
	isParsed(t, text)
	return p
}

// isTold: P19.1, P19.3, P19.4, whether a policy may be, and its text.
func isTold(t *testing.T, p api.Policy) {
	t.Helper()
	want := wantMay(p)
	if err := policy.May(p); err != want {
		t.Fatalf("May(%v): %v, want %v", p, err, want)
	}
	s, err := policy.Text(p)
	if want != api.OK {
		if s != "" || err != want {
			t.Fatalf("Text(%v): %q, %v, want %v", p, s, err, want)
		}
		return
	}
	if s != wantText(p) || err != api.OK {
		t.Fatalf("Text(%v): %q, %v, want %q", p, s, err, wantText(p))
	}
	if q, f := policy.Parse(s); f != (api.Fault{}) || !same(p, q) {
		t.Fatalf("%v as %q, and back: %v, %v", p, s, q, f)
	}
}

func TestExamples(t *testing.T) {
	p := isFine(t, "group dev = ann bob")
	if len(p.Groups) != 1 || p.Groups[0].Name != "dev" || !slices.Equal(p.Groups[0].List, []string{"ann", "bob"}) {
		t.Errorf("a group: %v", p)
	}
	p = isFine(t, "group dev = ann\ntag web = bob\naccept tcp,udp from group:dev net:10.0.0.0/8 to tag:web ports 80 443-444")
	want := api.Acl{
		Protos: []uint8{6, 17}, Src: []api.Sel{{Kind: 3, Name: "dev"}, {Kind: 6, Net: api.Prefix{Addr: api.Addr{Lo: 0x0a000000}, Bits: 8}}},
		Dst: []api.Sel{{Kind: 4, Name: "web"}}, Ports: []api.Ports{{From: 80, To: 80}, {From: 443, To: 444}},
	}
	if !same(api.Policy{Acls: p.Acls}, api.Policy{Acls: []api.Acl{want}}) {
		t.Errorf("an accept: %v", p.Acls)
	}
	p = isFine(t, "accept any from * to *")
	if !same(p, api.Policy{Acls: []api.Acl{{Src: []api.Sel{{Kind: 1}}, Dst: []api.Sel{{Kind: 1}}}}}) {
		t.Errorf("any: %v", p)
	}
	isFault(t, "accept udp,tcp from * to *", api.ErrProto, 1, 1)
	isFault(t, "accept any from x to *", api.ErrSel, 1, 3)
	isFault(t, "accept any from *", api.ErrWord, 1, 4)
	isFault(t, "group A = b", api.ErrLabel, 1, 1)
	isFault(t, "group a b", api.ErrWord, 1, 2)
	isFault(t, "host h = 10.0.0.1/8", api.ErrNet, 1, 3)
	isFault(t, "accept any from tag:x to *", api.ErrUnknown, 1, 3)
}

// TestSample: P19.2, P19.3, a text with all that there is, word for word.
func TestSample(t *testing.T) {
	p := isFine(t, sample)
	if !same(p, sampled(t)) {
		t.Errorf("the sample: %v", p)
	}
	s, err := policy.Text(p)
	want := "group dev = ann bob\ngroup ops = cy ann\ntag web = ann\nhost h = 10.0.0.0/8\nhost six = fd00::/8\n" +
		"accept tcp,udp from group:dev net:10.0.0.0/8 to tag:web host:h ports 80 443-444\naccept any from * to user:bob\n" +
		"accept icmp from group:ops host:six to net:fd00::/16 ports 0-65535\n"
	if s != want || err != api.OK {
		t.Errorf("its text: %q, %v", s, err)
	}
}

func isLabel(t *testing.T, s string) {
	t.Helper()
	if got, want := policy.Label(s), wantLabel.MatchString(s); got != want {
		t.Errorf("Label(%q): %v", s, got)
	}
}

// TestLabel: P19.1, each byte at each place, all lengths, and each two bytes.
func TestLabel(t *testing.T) {
	for s, want := range map[string]bool{
		"a": true, "z": true, "a.b-1": true, "a_": true, "a.": true, "a-": true, "a0": true, "a9": true, "az": true, "to": true, "ports": true, "group": true,
		"": false, "A": false, "0": false, "1a": false, ".a": false, "_a": false, "-a": false, "aB": false, "a b": false, "a:b": false, "a*": false, "a#": false, "a=": false, "a,b": false, "a/": false, "é": false, "aé": false, "a\n": false, "\na": false, "a\x00": false, "`": false, "{": false, "a`": false, "a{": false, "a/b": false, "a:": false,
		strings.Repeat("a", 31): true, strings.Repeat("a", 32): true, strings.Repeat("a", 33): false, "b" + strings.Repeat("-", 31): true, "b" + strings.Repeat("9", 32): false,
	} {
		if policy.Label(s) != want {
			t.Errorf("Label(%q): %v", s, !want)
		}
	}
	for a := range 256 {
		isLabel(t, string([]byte{byte(a)}))
		for b := range 256 {
			isLabel(t, string([]byte{byte(a), byte(b)}))
		}
		for at := range 34 {
			for _, n := range []int{at + 1, 31, 32, 33} {
				if at < n {
					s := []byte(strings.Repeat("k", n))
					s[at] = byte(a)
					isLabel(t, string(s))
				}
			}
		}
	}
	for n := range 300 {
		isLabel(t, strings.Repeat("a", n))
		isLabel(t, strings.Repeat("7", n))
	}
	isLabel(t, strings.Repeat("a", 1<<20))
	if api.MaxLabel != 32 || api.MaxList != maxList || api.MaxPolicy != maxText {
		t.Error("other bounds")
	}
}

// TestCopy: P19.1, R5, the same, whatever is done to either one behind it.
func TestCopy(t *testing.T) {
	r := rand.New(rand.NewSource(1))
	all := []api.Policy{{}, sampled(t), odd(), {Groups: []api.Named{}, Acls: []api.Acl{{Src: []api.Sel{}}}}}
	for range 300 {
		all = append(all, spoiled(r, drawn(r)))
	}
	for _, p := range all {
		was := plain(p)
		q := policy.Copy(p)
		if !same(p, q) || !same(p, was) {
			t.Fatalf("Copy(%v): %v", was, q)
		}
		turn(q)
		if !same(p, was) {
			t.Fatalf("a copy of %v was changed, and so is that: %v", was, p)
		}
		again := policy.Copy(p)
		turn(p)
		if !same(again, was) {
			t.Fatalf("%v was changed, and so is its copy: %v", was, again)
		}
	}
}

// odd is a policy that may not be in any way.
func odd() api.Policy {
	return api.Policy{
		Groups: []api.Named{{}, {Name: "A", List: []string{"", "\n"}}, {Name: "A"}},
		Tags:   []api.Named{{Name: "#", List: []string{"#"}}, {}},
		Hosts:  []api.HostName{{Net: api.Prefix{Addr: api.Addr{Hi: 1}, Bits: 255}}, {}},
		Acls:   []api.Acl{{}, {Protos: []uint8{9, 9, 0}, Src: []api.Sel{{}, {Kind: 255, Name: "x"}}, Dst: []api.Sel{{Kind: 1, Name: "y"}}, Ports: []api.Ports{{From: 2, To: 1}}}},
	}
}

// turn changes all that stands in lists, by the lists themselves, and behind their ends.
func turn(p api.Policy) {
	for _, l := range [][]api.Named{p.Groups, p.Tags} {
		for i := range l {
			l[i].Name += "!"
			for j := range l[i].List {
				l[i].List[j] += "!"
			}
			_ = append(l[i].List, "!")
			l[i].List = nil
		}
		_ = append(l, api.Named{Name: "!"})
	}
	for i := range p.Hosts {
		p.Hosts[i].Name += "!"
		p.Hosts[i].Net.Bits++
	}
	for i := range p.Acls {
		a := &p.Acls[i]
		for j := range a.Protos {
			a.Protos[j]++
		}
		for _, l := range [][]api.Sel{a.Src, a.Dst} {
			for j := range l {
				l[j].Kind++
				l[j].Name += "!"
			}
			_ = append(l, api.Sel{Kind: 99})
		}
		for j := range a.Ports {
			a.Ports[j].From++
		}
		*a = api.Acl{}
	}
}

// TestOwnMemory: R5, R6: no two answers share a list, no two lists of one do, and an
// argument is not changed.
func TestOwnMemory(t *testing.T) {
	first, _ := policy.Parse(sample)
	turn(first)
	second, f := policy.Parse(sample)
	if f.Err != api.OK || !same(second, sampled(t)) {
		t.Errorf("a second time: %v, %v", second, f)
	}
	for i := range second.Acls {
		a := &second.Acls[i]
		_ = append(a.Protos, 99)
		_ = append(a.Src, api.Sel{Kind: 99})
		_ = append(a.Dst, api.Sel{Kind: 99})
		_ = append(a.Ports, api.Ports{From: 99})
	}
	for i := range second.Groups {
		_ = append(second.Groups[i].List, "!")
	}
	_ = append(second.Groups, api.Named{Name: "!"})
	_ = append(second.Tags, api.Named{Name: "!"})
	if !same(second, sampled(t)) {
		t.Errorf("lists that share memory: %v", second)
	}
	r := rand.New(rand.NewSource(2))
	for range 300 {
		p := spoiled(r, drawn(r))
		was := plain(p)
		policy.May(p)
		policy.Text(p)
		if !same(p, was) {
			t.Fatalf("%v was changed: %v", was, p)
		}
	}
}
