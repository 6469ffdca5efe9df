package lex_test

import (
	"slices"
	"strings"
	"testing"

	"gesso/api"
	"gesso/lex"
)

// P10.2: blanks and commas between tokens, one more or fewer, change places
// alone.

// size is how many bytes of s the token x has.
func size(s string, x api.Token) int {
	switch x.Kind {
	case api.TkWord:
		return len(x.S)
	case api.TkEnd:
		return 1
	}
	return len(numberPattern.FindString(s[x.At:]))
}

// open tells of each place of s, its end too, whether it is inside of none of
// the tokens.
func open(s string, l []api.Token) []bool {
	list := slices.Repeat([]bool{true}, len(s)+1)
	for _, x := range l {
		for i := x.At + 1; i < x.At+size(s, x); i++ {
			list[i] = false
		}
	}
	return list
}

// moved are the tokens of l, those from that place on by so many bytes
// further.
func moved(l []api.Token, from, by int) []api.Token {
	l = slices.Clone(l)
	for i := range l {
		if l[i].At >= from {
			l[i].At += by
		}
	}
	return l
}

func isDigit(b byte) bool { return b >= '0' && b <= '9' }

func isLetter(b byte) bool { return b >= 'a' && b <= 'z' || b >= 'A' && b <= 'Z' }

// glues tells whether the blank at i is all that parts two words, or a number
// and digits: without it they are other tokens, as P10.1 has it.
func glues(s string, i int) bool {
	if i == 0 || i == len(s)-1 {
		return false
	}
	a, b := s[i-1], s[i+1]
	return isLetter(a) && isLetter(b) || isDigit(a) && isDigit(b)
}

func checkGaps(t *testing.T, s string) {
	t.Helper()
	l, _, e := lex.Cut(s)
	if e != api.OK {
		t.Fatalf("%q: %v", s, e)
	}
	for i, ok := range open(s, l) {
		for _, gap := range []string{" ", ",", "  ", ", ,", strings.Repeat(" ", 40)} {
			if ok {
				check(t, s[:i]+gap+s[i:], tokens(moved(l, i, len(gap))...))
			}
		}
	}
	for i := range len(s) {
		if s[i] != ' ' && s[i] != ',' {
			continue
		}
		check(t, s[:i]+" "+s[i+1:], tokens(l...))
		check(t, s[:i]+","+s[i+1:], tokens(l...))
		if !glues(s, i) {
			check(t, s[:i]+s[i+1:], tokens(moved(l, i+1, -1)...))
		} else if got, _, e := lex.Cut(s[:i] + s[i+1:]); len(got) != len(l)-1 || e != api.OK {
			t.Errorf("%q without %d: %v %v", s, i, got, e)
		}
	}
}

func TestGapsOfFew(t *testing.T) {
	for _, s := range []string{
		"M 10,-5",
		"M10-5L7 8z",
		"5 3",
		"5,3",
		"a b",
		"a  b",
		"5 -3",
		"5-3",
		" ",
		", a ,",
		"\n \n,\n",
		"canvas 2 2 0 0 0\nfill M0 0h64,0 v,64 H0z\n\nstroke  M 1,1 L -2-2\n",
		"-00 0 -4611686018427387905,,4611686018427387905",
	} {
		checkGaps(t, s)
	}
}

func TestGapsOfShortTexts(t *testing.T) {
	count := 0
	shorts("bX4- ,\n", 5, func(s string) {
		if wanted(s).e == api.OK {
			count++
			checkGaps(t, s)
		}
	})
	if count < 1000 {
		t.Error(count)
	}
}

// What stands inside of a token is no gap: there a blank makes two of it, or
// parts a - from its digits.
func TestBlankInsideOfAToken(t *testing.T) {
	for _, b := range []string{" ", ","} {
		check(t, "a"+b+"b", tokens(word(0, "a"), word(2, "b")))
		check(t, "1"+b+"2", tokens(num(0, 1), num(2, 2)))
		check(t, "-1"+b+"2", tokens(num(0, -1), num(3, 2)))
		check(t, "-"+b+"12", syntax(0))
		check(t, "ab"+b+"c -"+b+"12", syntax(5))
	}
}
