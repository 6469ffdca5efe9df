package lex_test

import (
	"slices"
	"strings"
	"testing"
	"unsafe"

	"gesso/api"
	"gesso/lex"
)

// The rules that hold everywhere: what is handed in stays as it is and is not
// kept, what is told is new memory, and nothing is kept from call to call.

// deep is l with texts of its own.
func deep(l []api.Token) []api.Token {
	l = slices.Clone(l)
	for i := range l {
		l[i].S = strings.Clone(l[i].S)
	}
	return l
}

// bytesOf are the bytes in which s stands.
func bytesOf(s string) []byte {
	return unsafe.Slice(unsafe.StringData(s), len(s))
}

func memoryTexts() []string {
	return []string{"", " ", "\n", "a", "a b a", "M10-5 abc\nabc", "z", strings.Repeat("w", 500) + " " + strings.Repeat("w", 500), "-5", "fill M 0,0 q 5 5-5-5\nz"}
}

// The text's bytes are written over behind the call: the words stay.
func TestWordsAreNotTheText(t *testing.T) {
	for _, s := range memoryTexts() {
		given := append([]byte(s), "spare"...)
		l, _, _ := lex.Cut(unsafe.String(&given[0], len(s)))
		if string(given) != s+"spare" {
			t.Errorf("%q is changed", s)
		}
		for i := range given {
			given[i] = '#'
		}
		if want := wanted(s).list; !slices.Equal(l, want) {
			t.Errorf("%q: %v, not %v", s, l, want)
		}
	}
}

// All words of two answers are written over, one by one: the others stay.
func TestWordsShareNothing(t *testing.T) {
	for _, s := range memoryTexts() {
		a, _, _ := lex.Cut(s)
		b, _, _ := lex.Cut(s)
		list := slices.Concat(a, b)
		want := deep(list)
		for i := range list {
			if list[i].Kind != api.TkWord {
				continue
			}
			for k := range bytesOf(list[i].S) {
				bytesOf(list[i].S)[k] = '#'
			}
			want[i].S = strings.Repeat("#", len(want[i].S))
			if !slices.Equal(list, want) {
				t.Errorf("%q: token %d shares memory", s, i)
			}
		}
		check(t, s, wanted(s))
	}
}

// A list is the caller's, its spare room too.
func TestListsShareNothing(t *testing.T) {
	for _, s := range memoryTexts() {
		a, b := cut(s), cut(s)
		for i := range a.list[:cap(a.list)] {
			a.list[:cap(a.list)][i] = api.Token{Kind: 9, S: "bad", N: 9, At: 9}
		}
		if !b.equal(wanted(s)) {
			t.Errorf("%q: two answers share a list", s)
		}
		check(t, s, wanted(s))
	}
}

// What is told hangs on the text alone, not on the calls ahead.
func TestCallsAheadChangeNothing(t *testing.T) {
	texts := append(memoryTexts(), "-", "a -", "5.", "é", "a\xff", strings.Repeat("!", api.MaxText+1), strings.Repeat("9", 40), "a\n", "7")
	for _, s := range texts {
		want := wanted(s)
		for _, ahead := range texts {
			cut(ahead)
			check(t, s, want)
		}
	}
}
