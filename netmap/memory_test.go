package netmap_test

import (
	"reflect"
	"slices"
	"strings"
	"testing"

	"isthmus/api"
)

// deep is x, with lists of its own; those without elements are nil.
func deep[T any](x T) T {
	out := reflect.New(reflect.TypeFor[T]()).Elem()
	out.Set(reflect.ValueOf(x))
	own(out)
	return out.Interface().(T)
}

func own(v reflect.Value) {
	switch v.Kind() {
	case reflect.Struct:
		for i := range v.NumField() {
			own(v.Field(i))
		}
	case reflect.Slice:
		l := reflect.Zero(v.Type())
		for i := range v.Len() {
			l = reflect.Append(l, v.Index(i))
			own(l.Index(i))
		}
		v.Set(l)
	}
}

// alike tells whether all of both is the same, as R4 says of lists.
func alike[T any](a, b T) bool { return reflect.DeepEqual(deep(a), deep(b)) }

// spots are the places of all numbers, texts and bools in x, with their names, and of its
// lists, where the element behind the last one would be.
func spots(v reflect.Value, name string, visit func(name string, v reflect.Value)) {
	switch v.Kind() {
	case reflect.Struct:
		for i := range v.NumField() {
			spots(v.Field(i), name+"."+v.Type().Field(i).Name, visit)
		}
	case reflect.Slice:
		visit(name, v)
		for i := range v.Len() {
			spots(v.Index(i), name+"[]", visit)
		}
	default:
		visit(name, v)
	}
}

// changes are copies of x, each of which differs from it at one spot, by the spots' names.
func changes[T any](x T) (names []string, out []T) {
	count := 0
	spots(reflect.ValueOf(&x).Elem(), "", func(string, reflect.Value) { count++ })
	for i := range count {
		y := deep(x)
		n := 0
		spots(reflect.ValueOf(&y).Elem(), "", func(name string, v reflect.Value) {
			if n == i {
				turn(v)
				names = append(names, name)
			}
			n++
		})
		out = append(out, y)
	}
	return names, out
}

// turn makes v another value: of a list one that has one more element, or one less.
func turn(v reflect.Value) {
	switch v.Kind() {
	case reflect.Bool:
		v.SetBool(!v.Bool())
	case reflect.String:
		v.SetString(v.String() + "x")
	case reflect.Slice:
		if v.Len() > 1 {
			v.Set(v.Slice(0, v.Len()-1))
		} else {
			v.Set(reflect.Append(v, reflect.Zero(v.Type().Elem())))
		}
	default:
		v.SetUint(v.Uint() ^ 1)
	}
}

// span is where the elements of a list stand.
type span struct{ from, to uintptr }

func spansOf(v reflect.Value) []span {
	var out []span
	switch v.Kind() {
	case reflect.Struct:
		for i := range v.NumField() {
			out = append(out, spansOf(v.Field(i))...)
		}
	case reflect.Slice:
		if v.Cap() > 0 {
			out = append(out, span{v.Pointer(), v.Pointer() + uintptr(v.Cap())*v.Type().Elem().Size()})
		}
		for i := range v.Len() {
			out = append(out, spansOf(v.Index(i))...)
		}
	}
	return out
}

// share tells whether two lists of the answers stand in one place, or one of them where
// one of the arguments does.
func share(answers, arguments []any) bool {
	var given, got []span
	for _, x := range arguments {
		given = append(given, spansOf(reflect.ValueOf(x))...)
	}
	for _, x := range answers {
		got = append(got, spansOf(reflect.ValueOf(x))...)
	}
	for i, a := range got {
		meets := func(b span) bool { return a.from < b.to && b.from < a.to }
		if slices.ContainsFunc(given, meets) || slices.ContainsFunc(got[:i], meets) {
			return true
		}
	}
	return false
}

// apart: R5, each list of the answer is its own.
func apart(t *testing.T, answer any, arguments ...any) {
	t.Helper()
	if share([]any{answer}, arguments) {
		t.Fatalf("%v: a list that is not its own", answer)
	}
}

// TestMemory: what the tests stand on.
func TestMemory(t *testing.T) {
	m := town()
	other := deep(m)
	if !alike(m, other) || alike(m, api.Map{}) || alike(m, small(1)) {
		t.Error("alike")
	}
	if !alike(api.Map{Peers: []api.Peer{}}, api.Map{}) || !alike(api.Peer{Tags: []string{}}, api.Peer{}) || alike(api.Peer{Tags: []string{""}}, api.Peer{}) {
		t.Error("lists without elements")
	}
	apart(t, other, m)
	if n := len(spansOf(reflect.ValueOf(m))); n < 8 {
		t.Errorf("%d lists", n)
	}
	if !share([]any{m}, []any{api.Map{Peers: m.Peers[1:]}}) || !share([]any{m, m.Peers[2].Tags}, nil) || share([]any{m, other}, []any{town()}) {
		t.Error("share")
	}
	names, all := changes(m)
	for i, x := range all {
		if alike(x, m) || slices.ContainsFunc(all[:i], func(y api.Map) bool { return alike(x, y) }) {
			t.Errorf("no change, or one that came ahead of it: %s", names[i])
		}
	}
	for _, want := range []string{".Version", ".Policy", ".Peers", ".Peers[].Tags[]", ".Peers[].Addrs[].V6", ".Peers[].Ends[].Port", ".Relays[].End.Addr.Hi"} {
		if !slices.Contains(names, want) {
			t.Errorf("no change of %s: %s", want, strings.Join(names, " "))
		}
	}
	if !alike(m, town()) {
		t.Error("the town is another one")
	}
}
