package policy_test

import (
	"reflect"
	"regexp"
	"strconv"
	"strings"

	"isthmus/api"
	"isthmus/ip"
)

// What the chapter asks, once more: lines as a table of states, words by patterns.

const (
	maxText = 8192
	maxList = 64
)

var (
	wantWord  = regexp.MustCompile(`[^\x20\x09\x0a]+`)
	wantLabel = regexp.MustCompile(`\A[a-z][a-z0-9._-]{0,31}\z`)
	wantProto = regexp.MustCompile(`\A(any|icmp(,tcp)?(,udp)?|tcp(,udp)?|udp)\z`)
	wantRange = regexp.MustCompile(`\A(0|[1-9][0-9]{0,4})(-(0|[1-9][0-9]{0,4}))?\z`)
	wantNamed = regexp.MustCompile(`\A(user|group|tag|host):([a-z][a-z0-9._-]{0,31})\z`)
)

// state is what may stand at a place of a line: one of these words, or, if there is a
// pattern, a word of it; the line may end there, or not.
type state struct {
	words map[string]string // to the next state
	kind  string
	next  string
	ends  bool
}

var wantStates = map[string]state{
	"first":   {words: map[string]string{"group": "group", "tag": "tag", "host": "host", "accept": "protos"}},
	"group":   {kind: "told", next: "group is"},
	"tag":     {kind: "told", next: "tag is"},
	"host":    {kind: "told", next: "host is"},
	"protos":  {kind: "protos", next: "from"},
	"from":    {words: map[string]string{"from": "src"}},
	"src":     {kind: "src", next: "src more"},
	"dst":     {kind: "dst", next: "dst more"},
	"ports":   {kind: "ports", next: "ports+"},
	"net":     {kind: "net", next: "end"},
	"names":   {kind: "names", next: "names+"},
	"end":     {ends: true},
	"names+":  {kind: "names", next: "names+", ends: true},
	"ports+":  {kind: "ports", next: "ports+", ends: true},
	"tag is":  {words: map[string]string{"=": "names"}},
	"host is": {words: map[string]string{"=": "net"}},

	"group is": {words: map[string]string{"=": "names"}},
	"src more": {words: map[string]string{"to": "dst"}, kind: "src", next: "src more"},
	"dst more": {words: map[string]string{"ports": "ports"}, kind: "dst", next: "dst more", ends: true},
}

// wantOf: what a word of a kind says, or the error, if it is none.
func wantOf(kind, word string) (any, api.Errno) {
	switch kind {
	case "told", "names":
		if wantLabel.MatchString(word) {
			return word, api.OK
		}
		return nil, api.ErrLabel
	case "net":
		if net, err := ip.ReadPrefix(word); err == api.OK {
			return net, api.OK
		}
		return nil, api.ErrNet
	case "protos":
		if wantProto.MatchString(word) {
			return wantProtos(word), api.OK
		}
		return nil, api.ErrProto
	case "ports":
		if p, is := wantPorts(word); is {
			return p, api.OK
		}
		return nil, api.ErrRange
	case "src", "dst":
		if s, is := wantSel(word); is {
			return s, api.OK
		}
		return nil, api.ErrSel
	}
	return nil, api.ErrWord
}

func wantProtos(word string) []uint8 {
	var out []uint8
	for i, name := range []string{"icmp", "tcp", "udp"} {
		if strings.Contains(word, name) {
			out = append(out, []uint8{1, 6, 17}[i])
		}
	}
	return out
}

func wantPorts(word string) (api.Ports, bool) {
	m := wantRange.FindStringSubmatch(word)
	if m == nil {
		return api.Ports{}, false
	}
	from, _ := strconv.Atoi(m[1])
	to := from
	if m[2] != "" {
		to, _ = strconv.Atoi(m[3])
	}
	return api.Ports{From: uint16(from), To: uint16(to)}, from <= to && to < 65536
}

func wantSel(word string) (api.Sel, bool) {
	if word == "*" {
		return api.Sel{Kind: 1}, true
	}
	if rest, is := strings.CutPrefix(word, "net:"); is {
		net, err := ip.ReadPrefix(rest)
		return api.Sel{Kind: 6, Net: net}, err == api.OK
	}
	m := wantNamed.FindStringSubmatch(word)
	if m == nil {
		return api.Sel{}, false
	}
	return api.Sel{Kind: map[string]uint8{"user": 2, "group": 3, "tag": 4, "host": 5}[m[1]], Name: m[2]}, true
}

// wantParse: P19.2.
func wantParse(text string) (api.Policy, api.Fault) {
	if len(text) > maxText {
		return api.Policy{}, api.Fault{Err: api.ErrLong}
	}
	return wantLines(text)
}

// said is what one line says.
type said struct {
	at    int
	words []string
	lists map[string][]any // by kinds
}

// wantLines: what a text says, however long it is.
func wantLines(text string) (api.Policy, api.Fault) {
	counts, told := map[string]int{}, map[string]int{}
	var lines []said
	for i, line := range strings.Split(text, "\n") {
		words := wantWords(line)
		if len(words) == 0 {
			continue
		}
		l := said{at: i + 1, words: words, lists: map[string][]any{}}
		if err, at := l.read(counts, told); err != api.OK {
			return api.Policy{}, api.Fault{Err: err, Line: i + 1, Word: at}
		}
		lines = append(lines, l)
	}
	for _, l := range lines {
		for at, word := range l.words {
			kind, _, named := strings.Cut(word, ":")
			if l.words[0] == "accept" && named && (kind == "group" || kind == "tag" || kind == "host") && told[word] == 0 {
				return api.Policy{}, api.Fault{Err: api.ErrUnknown, Line: l.at, Word: at}
			}
		}
	}
	return wantPolicy(lines), api.Fault{}
}

func wantWords(line string) []string {
	words := wantWord.FindAllString(line, -1)
	for i, w := range words {
		if w[0] == '#' {
			return words[:i]
		}
	}
	return words
}

// read goes through the states of a line, and is the error at a word, if there is one.
func (l *said) read(counts, told map[string]int) (api.Errno, int) {
	at := "first"
	for i, word := range l.words {
		s := wantStates[at]
		if next, is := s.words[word]; is {
			at = next
			if i == 0 {
				if counts[word]++; counts[word] > maxList {
					return api.ErrMany, i
				}
			}
			continue
		}
		x, err := wantOf(s.kind, word)
		if err != api.OK {
			return err, i
		}
		if s.kind == "told" {
			if told[l.words[0]+":"+word]++; told[l.words[0]+":"+word] > 1 {
				return api.ErrTwice, i
			}
		}
		l.lists[s.kind] = append(l.lists[s.kind], x)
		if len(l.lists[s.kind]) > maxList {
			return api.ErrMany, i
		}
		at = s.next
	}
	if !wantStates[at].ends {
		return api.ErrWord, len(l.words)
	}
	return api.OK, 0
}

func wantPolicy(lines []said) api.Policy {
	var p api.Policy
	for _, l := range lines {
		switch l.words[0] {
		case "group":
			p.Groups = append(p.Groups, api.Named{Name: l.words[1], List: as[string](l.lists["names"])})
		case "tag":
			p.Tags = append(p.Tags, api.Named{Name: l.words[1], List: as[string](l.lists["names"])})
		case "host":
			p.Hosts = append(p.Hosts, api.HostName{Name: l.words[1], Net: l.lists["net"][0].(api.Prefix)})
		case "accept":
			p.Acls = append(p.Acls, api.Acl{
				Protos: l.lists["protos"][0].([]uint8), Src: as[api.Sel](l.lists["src"]), Dst: as[api.Sel](l.lists["dst"]), Ports: as[api.Ports](l.lists["ports"]),
			})
		}
	}
	return p
}

func as[T any](l []any) []T {
	var out []T
	for _, x := range l {
		out = append(out, x.(T))
	}
	return out
}

// wantText: P19.3, the text of a policy, and something of one that may not be.
func wantText(p api.Policy) string {
	var lines []string
	for _, x := range p.Groups {
		lines = append(lines, "group "+x.Name+" = "+strings.Join(x.List, " ")+"\n")
	}
	for _, x := range p.Tags {
		lines = append(lines, "tag "+x.Name+" = "+strings.Join(x.List, " ")+"\n")
	}
	for _, x := range p.Hosts {
		lines = append(lines, "host "+x.Name+" = "+ip.PrefixText(x.Net)+"\n")
	}
	for _, a := range p.Acls {
		protos := ""
		for _, n := range a.Protos {
			protos += "," + map[uint8]string{1: "icmp", 6: "tcp", 17: "udp"}[n]
		}
		if len(a.Protos) == 0 {
			protos = ",any"
		}
		s := "accept " + protos[1:] + " from" + wantSels(a.Src) + " to" + wantSels(a.Dst)
		for i, r := range a.Ports {
			if i == 0 {
				s += " ports"
			}
			s += " " + strconv.Itoa(int(r.From))
			if r.From != r.To {
				s += "-" + strconv.Itoa(int(r.To))
			}
		}
		lines = append(lines, s+"\n")
	}
	return strings.Join(lines, "")
}

func wantSels(l []api.Sel) string {
	s := ""
	for _, x := range l {
		switch x.Kind {
		case 1:
			s += " *"
		case 2:
			s += " user:" + x.Name
		case 3:
			s += " group:" + x.Name
		case 4:
			s += " tag:" + x.Name
		case 5:
			s += " host:" + x.Name
		case 6:
			s += " net:" + ip.PrefixText(x.Net)
		default:
			s += " ?"
		}
	}
	return s
}

// wantMay: P19.1: it may be, if it is what its own text, however long, says.
func wantMay(p api.Policy) api.Errno {
	s := wantText(p)
	if q, f := wantLines(s); f.Err != api.OK || !same(p, q) {
		return api.ErrArg
	}
	if len(s) > maxText {
		return api.ErrLong
	}
	return api.OK
}

// same: whether both are the same, lists without elements as nil ones.
func same(p, q api.Policy) bool { return reflect.DeepEqual(plain(p), plain(q)) }

// plain is p with lists of its own, those without elements nil.
func plain(p api.Policy) api.Policy {
	var out api.Policy
	for _, x := range p.Groups {
		out.Groups = append(out.Groups, api.Named{Name: x.Name, List: append([]string(nil), x.List...)})
	}
	for _, x := range p.Tags {
		out.Tags = append(out.Tags, api.Named{Name: x.Name, List: append([]string(nil), x.List...)})
	}
	out.Hosts = append(out.Hosts, p.Hosts...)
	for _, a := range p.Acls {
		out.Acls = append(out.Acls, api.Acl{
			Protos: append([]uint8(nil), a.Protos...), Src: append([]api.Sel(nil), a.Src...),
			Dst: append([]api.Sel(nil), a.Dst...), Ports: append([]api.Ports(nil), a.Ports...),
		})
	}
	return out
}
