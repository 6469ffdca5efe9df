package lex_test

import (
	"math/big"
	"regexp"
	"slices"
	"strconv"
	"strings"
	"testing"

	"gesso/api"
	"gesso/lex"
)

// An answer is what Cut tells of a text.
type answer struct {
	list []api.Token
	at   int
	e    api.Errno
}

func cut(s string) answer {
	l, at, e := lex.Cut(s)
	return answer{l, at, e}
}

// tokens is the answer that has no fault.
func tokens(l ...api.Token) answer { return answer{list: l} }

func syntax(at int) answer { return answer{at: at, e: api.ErrSyntax} }

func word(at int, s string) api.Token { return api.Token{Kind: api.TkWord, S: s, At: at} }

func num(at int, n int64) api.Token { return api.Token{Kind: api.TkNum, N: n, At: at} }

func end(at int) api.Token { return api.Token{Kind: api.TkEnd, At: at} }

func (a answer) equal(b answer) bool {
	return a.at == b.at && a.e == b.e && slices.Equal(a.list, b.list)
}

// text tells a, cut short.
func (a answer) text() string {
	s := strconv.Itoa(a.at) + " " + a.e.Error()
	for _, t := range a.list[:min(len(a.list), 20)] {
		s += " " + strconv.Itoa(t.Kind) + strconv.Quote(t.S[:min(len(t.S), 20)]) + strconv.FormatInt(t.N, 10) + "@" + strconv.Itoa(t.At)
	}
	return s
}

// check tells whether Cut tells of s what is wanted.
func check(t *testing.T, s string, want answer) {
	t.Helper()
	if got := cut(s); !got.equal(want) {
		t.Errorf("%q: %s, not %s", s[:min(len(s), 80)], got.text(), want.text())
	}
}

// The document's words, as patterns that hold at a text's beginning.
var (
	blankPattern  = regexp.MustCompile(`\A[\x20,]+`)
	wordPattern   = regexp.MustCompile(`\A[a-zA-Z]+`)
	numberPattern = regexp.MustCompile(`\A-?[0-9]+`)
)

// bound is the greatest number that is told.
var bound = new(big.Int).Lsh(big.NewInt(1), 62)

// bounded is the number that a text tells, or the bound with its sign.
func bounded(s string) int64 {
	v, ok := new(big.Int).SetString(s, 10)
	if !ok {
		panic("the test itself")
	}
	if v.CmpAbs(bound) > 0 {
		v.Mul(bound, big.NewInt(int64(v.Sign())))
	}
	return v.Int64()
}

// wanted is what the document asks, by another implementation.
func wanted(s string) answer {
	if len(s) > 1048576 {
		return answer{e: api.ErrLimit}
	}
	var a answer
	for at := 0; at < len(s); {
		rest := s[at:]
		if m := blankPattern.FindString(rest); m != "" {
			at += len(m)
		} else if m := wordPattern.FindString(rest); m != "" {
			a.list = append(a.list, word(at, m))
			at += len(m)
		} else if m := numberPattern.FindString(rest); m != "" {
			a.list = append(a.list, num(at, bounded(m)))
			at += len(m)
		} else if strings.HasPrefix(rest, "\x0a") {
			a.list = append(a.list, end(at))
			at++
		} else {
			return syntax(at)
		}
	}
	return a
}

// shorts yields all texts of at most n of the bytes.
func shorts(bytes string, n int, yield func(string)) {
	yield("")
	if n == 0 {
		return
	}
	for i := range len(bytes) {
		shorts(bytes, n-1, func(s string) {
			yield(bytes[i:i+1] + s)
		})
	}
}
