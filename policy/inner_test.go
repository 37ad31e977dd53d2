package policy

import (
	"slices"
	"testing"

	"isthmus/api"
)

// TestWordsOf: words one by one, and nothing behind them, as often as it is asked.
func TestWordsOf(t *testing.T) {
	for line, want := range map[string][]string{
		"": nil, " \t ": nil, "a": {"a"}, " a\tb  c ": {"a", "b", "c"}, "a #b c": {"a"}, "#": nil, "a#b # c": {"a#b"}, "a\r b": {"a\r", "b"},
	} {
		take := wordsOf(line)
		var got []string
		for word := take(); word != ""; word = take() {
			got = append(got, word)
		}
		if !slices.Equal(got, want) || take() != "" || take() != "" {
			t.Errorf("%q: %q, want %q", line, got, want)
		}
	}
}

// TestLinesOf: each kind of lines has its call, and there are no others.
func TestLinesOf(t *testing.T) {
	lines := (&reader{}).lines()
	for _, word := range []string{"group", "tag", "host", "accept"} {
		if lines[word] == nil {
			t.Errorf("no %s", word)
		}
	}
	if len(lines) != 4 {
		t.Errorf("%d kinds", len(lines))
	}
}

// TestCaught: a fault ends what is done, and is told; what is no fault is not hidden.
func TestCaught(t *testing.T) {
	done := 0
	if f := caught(func() { done++ }); f != (api.Fault{}) || done != 1 {
		t.Errorf("without a fault: %v, %d", f, done)
	}
	r := &reader{line: 3, at: 4}
	f := caught(func() {
		r.need(true, api.ErrNet)
		r.need(false, api.ErrWord)
		done++
	})
	if f != (api.Fault{Err: api.ErrWord, Line: 3, Word: 4}) || done != 1 {
		t.Errorf("with one: %v, %d", f, done)
	}
	defer func() {
		if recover() == nil {
			t.Error("something else was hidden")
		}
	}()
	caught(func() { panic("something else") })
}

// TestWordTables: each protocol and each kind of selectors is told by its own word, and
// read as itself.
func TestWordTables(t *testing.T) {
	for _, row := range protoNames {
		if protoOf(row.name) != row.number || protosText([]uint8{row.number}) != row.name || row.number == 0 {
			t.Errorf("%v", row)
		}
	}
	for _, row := range selNames {
		if kindOf(row.name) != row.kind || row.kind == 0 || row.kind == api.SelAny {
			t.Errorf("%v", row)
		}
	}
	if protoOf("") != 0 || kindOf("") != 0 || kindOf("*") != 0 {
		t.Error("something of no name")
	}
}
