package policy

import (
	"strings"

	"isthmus/api"
	"isthmus/ip"
)

// fault is what a reader panics with, and nothing else.
type fault api.Fault

// caught does something up to its end, or to the fault that ends it.
func caught(do func()) (f api.Fault) {
	defer func() {
		if v := recover(); v != nil {
			f = api.Fault(v.(fault))
		}
	}()
	do()
	return api.Fault{}
}

// reader reads a text word by word: it stands at a word, or, with none, behind the last
// one of a line, and faults there.
type reader struct {
	policy api.Policy
	line   int
	at     int
	word   string
	take   func() string
	named  []mention
}

// mention is a selector, and the fault that it has if what it names is not told.
type mention struct {
	sel   api.Sel
	fault fault
}

// lines are the kinds of lines by their first words: what reads the rest of one.
func (r *reader) lines() map[string]func() {
	return map[string]func(){
		wordGroup:  r.group,
		wordTag:    r.tag,
		wordHost:   r.host,
		wordAccept: r.accept,
	}
}

func (r *reader) text(text string) {
	lines := r.lines()
	for _, line := range strings.Split(text, "\n") {
		r.line++
		r.begin(line)
		if r.word == "" {
			continue
		}
		rest, is := lines[r.word]
		r.need(is, api.ErrWord)
		rest()
		r.need(r.word == "", api.ErrWord)
	}
	r.unknown()
}

// unknown faults at the first selector that names what no line tells: only behind the
// last line all are known.
func (r *reader) unknown() {
	for _, m := range r.named {
		if !tells(r.policy, m.sel) {
			panic(m.fault)
		}
	}
}

func (r *reader) begin(line string) {
	r.take = wordsOf(line)
	r.at, r.word = 0, r.take()
}

func (r *reader) next() {
	r.at, r.word = r.at+1, r.take()
}

// here is a fault of the word at which the reader stands.
func (r *reader) here(err api.Errno) fault {
	return fault{Err: err, Line: r.line, Word: r.at}
}

func (r *reader) need(is bool, err api.Errno) {
	if !is {
		panic(r.here(err))
	}
}

// needWord wants a word ahead of what it is.
func (r *reader) needWord(is bool, err api.Errno) {
	r.need(r.word != "", api.ErrWord)
	r.need(is, err)
}

// needRoom wants room for one more.
func (r *reader) needRoom(count int) { r.need(count < api.MaxList, api.ErrMany) }

func (r *reader) pass(word string) {
	r.need(r.word == word, api.ErrWord)
	r.next()
}

func (r *reader) group() { r.policy.Groups = r.namedLine(api.SelGroup, r.policy.Groups) }

func (r *reader) tag() { r.policy.Tags = r.namedLine(api.SelTag, r.policy.Tags) }

func (r *reader) namedLine(kind uint8, ahead []api.Named) []api.Named {
	name := r.newName(kind, len(ahead))
	return append(ahead, api.Named{Name: name, List: listed(r, "", r.name)})
}

func (r *reader) host() {
	name := r.newName(api.SelHost, len(r.policy.Hosts))
	net, err := ip.ReadPrefix(r.word)
	r.needWord(err == api.OK, api.ErrNet)
	r.next()
	r.policy.Hosts = append(r.policy.Hosts, api.HostName{Name: name, Net: net})
}

func (r *reader) accept() {
	r.needRoom(len(r.policy.Acls))
	r.next()
	protos, is := protosOf(r.word)
	r.needWord(is, api.ErrProto)
	r.next()
	a := api.Acl{Protos: protos}
	r.pass(wordFrom)
	a.Src = listed(r, wordTo, r.sel)
	r.pass(wordTo)
	a.Dst = listed(r, wordPorts, r.sel)
	if r.word != "" {
		r.pass(wordPorts)
		a.Ports = listed(r, "", r.ports)
	}
	r.policy.Acls = append(r.policy.Acls, a)
}

// newName is the name that a line tells of a kind of which so many were told ahead of
// it, up to what it is said to be.
func (r *reader) newName(kind uint8, count int) string {
	r.needRoom(count)
	r.next()
	name := r.name()
	r.need(!tells(r.policy, api.Sel{Kind: kind, Name: name}), api.ErrTwice)
	r.next()
	r.pass(wordIs)
	return name
}

// listed are the words from here up to the one that ends them, or to the line's end: at
// least one, each of which is read by a call.
func listed[T any](r *reader, end string, read func() T) []T {
	var out []T
	for len(out) == 0 || r.word != "" && r.word != end {
		one := read()
		r.needRoom(len(out))
		out = append(out, one)
		r.next()
	}
	return out
}

func (r *reader) name() string {
	r.needWord(Label(r.word), api.ErrLabel)
	return r.word
}

func (r *reader) sel() api.Sel {
	s, is := selOf(r.word)
	r.needWord(is, api.ErrSel)
	r.named = append(r.named, mention{s, r.here(api.ErrUnknown)})
	return s
}

func (r *reader) ports() api.Ports {
	p, is := rangeOf(r.word)
	r.needWord(is, api.ErrRange)
	return p
}
