package policy_test

import (
	"fmt"
	"math/rand"
	"slices"
	"strings"
	"testing"

	"isthmus/api"
	"isthmus/policy"
)

// isMay: P19.1, whether a policy may be.
func isMay(t *testing.T, p api.Policy, want api.Errno) {
	t.Helper()
	if err := policy.May(p); err != want {
		t.Errorf("May(%v): %v, want %v", p, err, want)
	}
	isTold(t, p)
}

func named(name string, list ...string) api.Named { return api.Named{Name: name, List: list} }

// anyAcl is an accept of all.
func anyAcl() api.Acl {
	return api.Acl{Src: []api.Sel{{Kind: api.SelAny}}, Dst: []api.Sel{{Kind: api.SelAny}}}
}

// TestMayNames: P19.1, groups and tags.
func TestMayNames(t *testing.T) {
	for _, c := range []struct {
		l    []api.Named
		want api.Errno
	}{
		{nil, api.OK}, {[]api.Named{}, api.OK},
		{[]api.Named{named("a", "b")}, api.OK},
		{[]api.Named{named("a", "a", "a")}, api.OK},
		{[]api.Named{named("a", "b"), named("b", "b")}, api.OK},
		{[]api.Named{named("a", "b"), named("a", "b")}, api.ErrArg},
		{[]api.Named{named("a", "b"), named("c", "b"), named("a", "d")}, api.ErrArg},
		{[]api.Named{named("b", "b"), named("a", "b"), named("b", "d"), named("c", "d")}, api.ErrArg},
		{[]api.Named{named("a")}, api.ErrArg},
		{[]api.Named{{Name: "a", List: []string{}}}, api.ErrArg},
		{[]api.Named{named("", "b")}, api.ErrArg},
		{[]api.Named{named("A", "b")}, api.ErrArg},
		{[]api.Named{named("a", "")}, api.ErrArg},
		{[]api.Named{named("a", "b", "")}, api.ErrArg},
		{[]api.Named{named("a", "b c")}, api.ErrArg},
		{[]api.Named{named("a", "b\ngroup c = d")}, api.ErrArg},
		{[]api.Named{named("a", "b", "#")}, api.ErrArg},
		{[]api.Named{named("a = b\ngroup c", "d")}, api.ErrArg},
		{[]api.Named{named(strings.Repeat("a", 32), strings.Repeat("b", 32))}, api.OK},
		{[]api.Named{named(strings.Repeat("a", 33), "b")}, api.ErrArg},
		{[]api.Named{named("a", strings.Repeat("b", 33))}, api.ErrArg},
		{[]api.Named{named("a", names(64)...)}, api.OK},
		{[]api.Named{named("a", names(65)...)}, api.ErrArg},
		{[]api.Named{named("a", names(5000)...)}, api.ErrArg},
		{manyNamed(64), api.OK}, {manyNamed(65), api.ErrArg}, {manyNamed(5000), api.ErrArg},
	} {
		isMay(t, api.Policy{Groups: c.l}, c.want)
		isMay(t, api.Policy{Tags: c.l}, c.want)
		isMay(t, api.Policy{Groups: c.l, Tags: c.l}, c.want)
		isMay(t, api.Policy{Groups: c.l, Tags: []api.Named{named("zz", "b")}, Acls: []api.Acl{anyAcl()}}, c.want)
	}
}

// names are so many, no two the same.
func names(count int) []string {
	var out []string
	for i := range count {
		out = append(out, fmt.Sprint("n", i))
	}
	return out
}

func manyNamed(count int) []api.Named {
	var out []api.Named
	for _, s := range names(count) {
		out = append(out, named(s, "u"))
	}
	return out
}

func manyHosts(count int) []api.HostName {
	var out []api.HostName
	for _, s := range names(count) {
		out = append(out, api.HostName{Name: s, Net: api.Prefix{Addr: api.Addr{V6: true}}})
	}
	return out
}

// TestMayHosts: P19.1, hosts; their names are their own kind's.
func TestMayHosts(t *testing.T) {
	ten, six := net(t, "10.0.0.0/8"), net(t, "fd00::/8")
	for _, c := range []struct {
		l    []api.HostName
		want api.Errno
	}{
		{[]api.HostName{}, api.OK},
		{[]api.HostName{{Name: "a", Net: ten}}, api.OK},
		{[]api.HostName{{Name: "a"}}, api.OK},
		{[]api.HostName{{Name: "a", Net: ten}, {Name: "b", Net: ten}}, api.OK},
		{[]api.HostName{{Name: "a", Net: ten}, {Name: "a", Net: six}}, api.ErrArg},
		{[]api.HostName{{Name: "a", Net: ten}, {Name: "b", Net: ten}, {Name: "a", Net: ten}}, api.ErrArg},
		{[]api.HostName{{Name: "", Net: ten}}, api.ErrArg},
		{[]api.HostName{{Name: "H", Net: ten}}, api.ErrArg},
		{[]api.HostName{{Name: "a", Net: api.Prefix{Addr: api.Addr{Lo: 1}, Bits: 31}}}, api.ErrArg},
		{[]api.HostName{{Name: "a", Net: api.Prefix{Addr: api.Addr{Lo: 1}, Bits: 32}}}, api.OK},
		{[]api.HostName{{Name: "a", Net: api.Prefix{Addr: api.Addr{Lo: 1}, Bits: 33}}}, api.ErrArg},
		{[]api.HostName{{Name: "a", Net: api.Prefix{Addr: api.Addr{Hi: 1}, Bits: 32}}}, api.ErrArg},
		{[]api.HostName{{Name: "a", Net: api.Prefix{Addr: api.Addr{V6: true}, Bits: 129}}}, api.ErrArg},
		{manyHosts(64), api.OK}, {manyHosts(65), api.ErrArg}, {manyHosts(5000), api.ErrArg},
	} {
		isMay(t, api.Policy{Hosts: c.l}, c.want)
		isMay(t, api.Policy{Groups: []api.Named{named("a", "a")}, Tags: []api.Named{named("a", "a")}, Hosts: c.l}, c.want)
	}
}

// TestMaySels: P19.1, selectors of every kind, each with what it has and what it has not.
func TestMaySels(t *testing.T) {
	told := api.Policy{Groups: []api.Named{named("g", "u")}, Tags: []api.Named{named("t", "u")}, Hosts: []api.HostName{{Name: "h"}}}
	isMay(t, told, api.OK)
	right := map[api.Sel]bool{{Kind: 1}: true, {Kind: 3, Name: "g"}: true, {Kind: 4, Name: "t"}: true, {Kind: 5, Name: "h"}: true}
	for _, s := range []string{"g", "t", "h", "x"} {
		right[api.Sel{Kind: 2, Name: s}] = true
	}
	nets := []api.Prefix{{}, net(t, "10.0.0.0/8"), net(t, "fd00::/8"), net(t, "::/0")}
	for _, n := range nets {
		right[api.Sel{Kind: 6, Net: n}] = true
	}
	nets = append(nets, api.Prefix{Bits: 33}, api.Prefix{Addr: api.Addr{Lo: 1}}, api.Prefix{Addr: api.Addr{Hi: 1}, Bits: 32})
	for kind := range 256 {
		for _, name := range []string{"", "g", "t", "h", "x", "X", "*", "g t", strings.Repeat("x", 33)} {
			for _, n := range nets {
				s := api.Sel{Kind: uint8(kind), Name: name, Net: n}
				want := api.ErrArg
				if right[s] {
					want = api.OK
				}
				for i := range 2 {
					p := told
					a, lists := anyAcl(), []api.Sel{{Kind: 1}, s}
					if i == 0 {
						a.Src = lists
					} else {
						a.Dst = lists
					}
					p.Acls = []api.Acl{anyAcl(), a}
					if err := policy.May(p); err != want {
						t.Fatalf("May with %v: %v", s, err)
					}
					if kind < 9 {
						isTold(t, p)
					}
				}
			}
		}
	}
}

// TestMayAcls: P19.1, the lists of an accept.
func TestMayAcls(t *testing.T) {
	one := []api.Sel{{Kind: 1}}
	many := func(n int) []api.Sel { return slices.Repeat(one, n) }
	ports := func(n int) []api.Ports { return slices.Repeat([]api.Ports{{From: 1, To: 2}}, n) }
	for _, c := range []struct {
		a    api.Acl
		want api.Errno
	}{
		{api.Acl{}, api.ErrArg}, {api.Acl{Src: one}, api.ErrArg}, {api.Acl{Dst: one}, api.ErrArg}, {api.Acl{Src: one, Dst: []api.Sel{}}, api.ErrArg},
		{api.Acl{Src: one, Dst: one}, api.OK},
		{api.Acl{Protos: []uint8{}, Src: one, Dst: one, Ports: []api.Ports{}}, api.OK},
		{api.Acl{Src: many(64), Dst: many(64), Ports: ports(64)}, api.OK},
		{api.Acl{Src: many(65), Dst: one}, api.ErrArg}, {api.Acl{Src: one, Dst: many(65)}, api.ErrArg}, {api.Acl{Src: one, Dst: one, Ports: ports(65)}, api.ErrArg},
		{api.Acl{Src: one, Dst: one, Ports: []api.Ports{{From: 0, To: 0}, {From: 65535, To: 65535}, {From: 0, To: 65535}}}, api.OK},
		{api.Acl{Src: one, Dst: one, Ports: []api.Ports{{From: 1, To: 0}}}, api.ErrArg},
		{api.Acl{Src: one, Dst: one, Ports: []api.Ports{{From: 5, To: 6}, {From: 65535, To: 65534}}}, api.ErrArg},
		{api.Acl{Src: one, Dst: one, Ports: []api.Ports{{From: 9, To: 9}, {From: 5, To: 6}, {From: 5, To: 9}, {From: 5, To: 6}}}, api.OK},
	} {
		isMay(t, api.Policy{Acls: []api.Acl{c.a}}, c.want)
		isMay(t, api.Policy{Acls: []api.Acl{anyAcl(), c.a, anyAcl()}}, c.want)
	}
	isMay(t, api.Policy{Acls: slices.Repeat([]api.Acl{anyAcl()}, 64)}, api.OK)
	isMay(t, api.Policy{Acls: slices.Repeat([]api.Acl{anyAcl()}, 65)}, api.ErrArg)
	isMay(t, api.Policy{Acls: slices.Repeat([]api.Acl{anyAcl()}, 1000)}, api.ErrArg)
}

// TestMayProtos: P19.1, every protocol alone, and all rows of up to four of some.
func TestMayProtos(t *testing.T) {
	is := func(l []uint8) {
		t.Helper()
		a := anyAcl()
		a.Protos = l
		want := api.ErrArg
		switch fmt.Sprint(l) {
		case "[]", "[1]", "[6]", "[17]", "[1 6]", "[1 17]", "[6 17]", "[1 6 17]":
			want = api.OK
		}
		isMay(t, api.Policy{Acls: []api.Acl{a}}, want)
	}
	for n := range 256 {
		is([]uint8{uint8(n)})
		is([]uint8{1, uint8(n)})
		is([]uint8{6, uint8(n)})
		is([]uint8{uint8(n), 17})
	}
	some := []uint8{0, 1, 2, 6, 17, 58, 255}
	rows := [][]uint8{nil}
	for range 4 {
		var next [][]uint8
		for _, row := range rows {
			is(row)
			for _, n := range some {
				next = append(next, append(slices.Clone(row), n))
			}
		}
		rows = next
	}
	for _, row := range rows {
		is(row)
	}
	is(slices.Repeat([]uint8{1}, 65))
}

// TestMayLong: P19.1, P19.3, texts at the bound, one beyond, and far beyond; ErrArg is
// named first.
func TestMayLong(t *testing.T) {
	for extra := -40; extra <= 40; extra++ {
		p := sized(maxText + extra)
		if n := len(wantText(p)); n != maxText+extra {
			t.Fatalf("%d bytes, want %d", n, maxText+extra)
		}
		want := api.OK
		if extra > 0 {
			want = api.ErrLong
		}
		isMay(t, p, want)
		p.Hosts = append(p.Hosts, api.HostName{Name: "H"})
		isMay(t, p, api.ErrArg)
	}
	all := api.Policy{Groups: manyNamed(64), Tags: manyNamed(64), Hosts: manyHosts(64)}
	for i := range all.Groups {
		all.Groups[i].List = slices.Repeat([]string{strings.Repeat("a", 32)}, 64)
		all.Tags[i].List = slices.Repeat([]string{strings.Repeat("b", 32)}, 64)
	}
	sels := slices.Repeat([]api.Sel{{Kind: 3, Name: "n63"}, {Kind: 2, Name: strings.Repeat("c", 32)}}, 32)
	ports := slices.Repeat([]api.Ports{{From: 10000, To: 65535}}, 64)
	all.Acls = slices.Repeat([]api.Acl{{Protos: []uint8{1, 6, 17}, Src: sels, Dst: sels, Ports: ports}}, 64)
	isMay(t, all, api.ErrLong)
	all.Acls = append(all.Acls, anyAcl())
	isMay(t, all, api.ErrArg)
}

// sized is a policy that may be, whose text has so many bytes, if they are some thousands.
func sized(count int) api.Policy {
	var p api.Policy
	for i := 0; count > 0; i++ {
		// "group " and " =" and the line's end, and the names with blanks ahead of them.
		room := min(count, 2000)
		if rest := count - room; rest > 0 && rest < 40 {
			room -= 40
		}
		count -= room
		name := fmt.Sprint("n", i)
		left := room - len("group ") - len(name) - len(" =\n")
		var list []string
		for left > 0 {
			n := min(left, 33)
			if left-n == 1 {
				n--
			}
			list = append(list, strings.Repeat("a", n-1))
			left -= n
		}
		p.Groups = append(p.Groups, named(name, list...))
	}
	return p
}

// drawn is a policy that may be, but for its length.
func drawn(r *rand.Rand) api.Policy {
	var p api.Policy
	count := func() int {
		if r.Intn(50) == 0 {
			return 60 + r.Intn(5)
		}
		return r.Intn(4)
	}
	label := func() string {
		s := []byte{byte('a' + r.Intn(26))}
		for range r.Intn(32) * r.Intn(2) {
			s = append(s, "abcxyz0189._-"[r.Intn(13)])
		}
		return string(s)
	}
	list := func() []string {
		out := []string{label()}
		for range count() {
			out = append(out, label())
		}
		return out[:min(len(out), 64)]
	}
	told := map[string]bool{}
	fresh := func(kind string) string {
		for {
			if s := label() + label(); len(s) <= 32 && !told[kind+s] {
				told[kind+s] = true
				return s
			}
		}
	}
	for range count() {
		p.Groups = append(p.Groups, api.Named{Name: fresh("g"), List: list()})
	}
	for range count() {
		p.Tags = append(p.Tags, api.Named{Name: fresh("t"), List: list()})
	}
	for range count() {
		p.Hosts = append(p.Hosts, api.HostName{Name: fresh("h"), Net: drawnNet(r)})
	}
	for range count() {
		a := api.Acl{Src: drawnSels(r, p, 1+min(count(), 63)), Dst: drawnSels(r, p, 1+min(count(), 63))}
		for _, n := range []uint8{1, 6, 17} {
			if r.Intn(2) == 0 {
				a.Protos = append(a.Protos, n)
			}
		}
		for range count() {
			x, y := uint16(r.Intn(1<<r.Intn(17))), uint16(r.Intn(1<<r.Intn(17)))
			a.Ports = append(a.Ports, api.Ports{From: min(x, y), To: max(x, y)})
		}
		p.Acls = append(p.Acls, a)
	}
	return p
}

func drawnNet(r *rand.Rand) api.Prefix {
	p := api.Prefix{Addr: api.Addr{Lo: r.Uint64() >> 32}, Bits: uint8(r.Intn(33))}
	if r.Intn(2) == 0 {
		p = api.Prefix{Addr: api.Addr{V6: true, Hi: r.Uint64()}, Bits: uint8(r.Intn(65))}
		p.Addr.Hi &= ^uint64(0) << (64 - p.Bits)
		return p
	}
	p.Addr.Lo &= 1<<32 - 1<<(32-p.Bits)
	return p
}

func drawnSels(r *rand.Rand, p api.Policy, count int) []api.Sel {
	var out []api.Sel
	for range count {
		s := api.Sel{Kind: uint8(1 + r.Intn(6))}
		switch {
		case s.Kind == 3 && len(p.Groups) > 0:
			s.Name = p.Groups[r.Intn(len(p.Groups))].Name
		case s.Kind == 4 && len(p.Tags) > 0:
			s.Name = p.Tags[r.Intn(len(p.Tags))].Name
		case s.Kind == 5 && len(p.Hosts) > 0:
			s.Name = p.Hosts[r.Intn(len(p.Hosts))].Name
		case s.Kind == 6:
			s.Net = drawnNet(r)
		case s.Kind != 1:
			s = api.Sel{Kind: 2, Name: "u"}
		}
		out = append(out, s)
	}
	return out
}

// spoiled is p, which is changed, with one thing that it may not have, or may, after all.
func spoiled(r *rand.Rand, p api.Policy) api.Policy {
	odd := []string{"", "A", "x y", "#", "x#", "to", "a\n", strings.Repeat("q", 33), "dev"}[r.Intn(9)]
	pick := func(n int) int { return r.Intn(max(n, 1)) }
	switch i := r.Intn(12); {
	case i < 3 && len(p.Groups) > 0:
		x := &p.Groups[pick(len(p.Groups))]
		switch i {
		case 0:
			x.Name = odd
		case 1:
			x.List[pick(len(x.List))] = odd
		case 2:
			x.List = x.List[:0]
		}
	case i == 3 && len(p.Tags) > 0:
		p.Tags = append(p.Tags, p.Tags[pick(len(p.Tags))])
	case i == 4 && len(p.Hosts) > 0:
		p.Hosts[pick(len(p.Hosts))].Net.Bits++
	case len(p.Acls) > 0:
		a := &p.Acls[pick(len(p.Acls))]
		s := &a.Src[pick(len(a.Src))]
		switch i {
		case 5:
			s.Name = odd
		case 6:
			s.Kind = uint8(r.Intn(8))
		case 7:
			s.Net.Addr.Lo++
		case 8:
			a.Dst = append(a.Dst, api.Sel{Kind: uint8(2 + r.Intn(4)), Name: odd})
		case 9:
			a.Protos = append(a.Protos, uint8(r.Intn(20)))
		case 10:
			a.Ports = append(a.Ports, api.Ports{From: uint16(r.Intn(4)), To: uint16(r.Intn(4))})
		case 11:
			a.Dst = nil
		}
	}
	return p
}

// TestDrawnPolicies: P19.1, P19.3, P19.4, such as may be, and such as may not by one thing.
func TestDrawnPolicies(t *testing.T) {
	r := rand.New(rand.NewSource(3))
	counts := map[api.Errno]int{}
	for range 6000 {
		p := drawn(r)
		if err := wantMay(p); err == api.ErrArg {
			t.Fatalf("%v", p)
		}
		isTold(t, p)
		p = spoiled(r, p)
		counts[policy.May(p)]++
		isTold(t, p)
	}
	if counts[api.OK] < 500 || counts[api.ErrArg] < 500 || counts[api.ErrLong] < 5 {
		t.Errorf("drawn: %v", counts)
	}
	isTold(t, odd())
	isTold(t, api.Policy{})
	if s, err := policy.Text(api.Policy{}); s != "" || err != api.OK {
		t.Errorf("nothing: %q, %v", s, err)
	}
}
