package lex_test

import (
	"strings"
	"testing"

	"gesso/api"
	"gesso/lex"
)

// P10.1: how long a text may be.

func TestTextsOfMaxText(t *testing.T) {
	const n = 1048576
	check(t, strings.Repeat(" ", n), tokens())
	check(t, strings.Repeat(",", n), tokens())
	check(t, strings.Repeat("a", n), tokens(word(0, strings.Repeat("a", n))))
	check(t, strings.Repeat(" ", n-1)+"a", tokens(word(n-1, "a")))
	check(t, strings.Repeat(" ", n-2)+"-5", tokens(num(n-2, -5)))
	check(t, strings.Repeat(",", n-1)+"\n", tokens(end(n-1)))
	check(t, strings.Repeat(" ", n-1)+"-", syntax(n-1))
	check(t, strings.Repeat("a", n-1)+"\xff", syntax(n-1))
	check(t, strings.Repeat("a", n-2)+"é", syntax(n-2))
	check(t, strings.Repeat("!", n), syntax(0))
	check(t, strings.Repeat("a1\n,", n/4-1)+"a1\n-", syntax(n-1))
}

// As many tokens as a text can have.
func TestVeryManyTokens(t *testing.T) {
	l, at, e := lex.Cut(strings.Repeat("\n", api.MaxText))
	if len(l) != api.MaxText || at != 0 || e != api.OK {
		t.Fatal(len(l), at, e)
	}
	for i, x := range l {
		if x != end(i) {
			t.Fatal(i, x)
		}
	}
	l, at, e = lex.Cut(strings.Repeat("b7", api.MaxText/2))
	if len(l) != api.MaxText || at != 0 || e != api.OK {
		t.Fatal(len(l), at, e)
	}
	for i, x := range l {
		if i%2 == 0 && x != word(i, "b") || i%2 == 1 && x != num(i, 7) {
			t.Fatal(i, x)
		}
	}
}

// The limit goes ahead of syntax, and its place is 0, whatever the bytes are.
func TestTextsBeyondMaxText(t *testing.T) {
	want := answer{e: api.ErrLimit}
	for _, n := range []int{1048577, 1048578, 2 << 20} {
		for _, s := range []string{" ", ",", "a", "0", "9", "-", "\n", "!", "\x00", "\xff", "\t"} {
			check(t, strings.Repeat(s, n), want)
			check(t, s+strings.Repeat(" ", n-1), want)
			check(t, strings.Repeat(" ", n-1)+s, want)
			check(t, "a 5\n"+s+strings.Repeat("b", n-5), want)
		}
	}
	// runes are not what is counted
	check(t, "a"+strings.Repeat("é", 1<<19), want)
	check(t, strings.Repeat("é", 1<<19), syntax(0))
	check(t, "a"+strings.Repeat("é", 1<<19-1), syntax(1))
}
