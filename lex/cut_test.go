package lex_test

import (
	"slices"
	"strings"
	"testing"
	"unicode/utf8"

	"gesso/api"
	"gesso/lex"
)

// P10.1: what is a token, where it stands, and where none begins.

func TestCutOfFew(t *testing.T) {
	for s, want := range map[string]answer{
		"":                       tokens(),
		" ":                      tokens(),
		",":                      tokens(),
		" ,,  ,  ,,, ":           tokens(),
		"\n":                     tokens(end(0)),
		"\n\n\n":                 tokens(end(0), end(1), end(2)),
		" \n,\n ":                tokens(end(1), end(3)),
		"M 10,-5":                tokens(word(0, "M"), num(2, 10), num(5, -5)),
		"M10":                    tokens(word(0, "M"), num(1, 10)),
		"10M":                    tokens(num(0, 10), word(2, "M")),
		"M-10L":                  tokens(word(0, "M"), num(1, -10), word(4, "L")),
		"5-3":                    tokens(num(0, 5), num(1, -3)),
		"-5-3-0":                 tokens(num(0, -5), num(2, -3), num(4, 0)),
		"5 3":                    tokens(num(0, 5), num(2, 3)),
		"53":                     tokens(num(0, 53)),
		"5,3":                    tokens(num(0, 5), num(2, 3)),
		"5\n3":                   tokens(num(0, 5), end(1), num(2, 3)),
		"Mm":                     tokens(word(0, "Mm")),
		"M m":                    tokens(word(0, "M"), word(2, "m")),
		"M\nm":                   tokens(word(0, "M"), end(1), word(2, "m")),
		"M1m":                    tokens(word(0, "M"), num(1, 1), word(2, "m")),
		"azAZ":                   tokens(word(0, "azAZ")),
		"0 9":                    tokens(num(0, 0), num(2, 9)),
		"0123456789":             tokens(num(0, 123456789)),
		"007":                    tokens(num(0, 7)),
		"-007":                   tokens(num(0, -7)),
		"-0":                     tokens(num(0, 0)),
		"000 -000":               tokens(num(0, 0), num(4, 0)),
		"0x10":                   tokens(num(0, 0), word(1, "x"), num(2, 10)),
		"1e5":                    tokens(num(0, 1), word(1, "e"), num(2, 5)),
		"1e-5":                   tokens(num(0, 1), word(1, "e"), num(2, -5)),
		"canvas 2 2 0 0 0\npush": tokens(word(0, "canvas"), num(7, 2), num(9, 2), num(11, 0), num(13, 0), num(15, 0), end(16), word(17, "push")),
		"fill M0 0l64-0z\n":      tokens(word(0, "fill"), word(5, "M"), num(6, 0), num(8, 0), word(9, "l"), num(10, 64), num(12, 0), word(14, "z"), end(15)),
	} {
		check(t, s, want)
	}
}

func TestSyntaxOfFew(t *testing.T) {
	for s, at := range map[string]int{
		"-":                              0,
		"5-":                             1,
		"a -":                            2,
		"a- 5":                           1,
		"-,5":                            0,
		"-\n5":                           0,
		"-a":                             0,
		"5 -a5":                          2,
		"--":                             0,
		"--5":                            0,
		"5--5":                           1,
		"-5--":                           2,
		"-5-":                            2,
		"1.5":                            1,
		"+1":                             0,
		"1+1":                            1,
		"a_b":                            1,
		"a;b":                            1,
		"#":                              0,
		"a\tb":                           1,
		"a\r\n":                          1,
		"\r\n":                           0,
		"\x00":                           0,
		"\n\n\x00":                       2,
		"1 2 3 4 5.":                     9,
		"ab\xff":                         2,
		"ab\xffcd":                       2,
		"\xffab":                         0,
		"abé":                            2,
		"é":                              0,
		"1é2":                            1,
		"a -é":                           2,
		"-.":                             0,
		"-; ;":                           0,
		"; -":                            0,
		"a\n5 -":                         4,
		"99999999999999999999 ;":         21,
		"\u0661":                         0,
		"5\u0661":                        1,
		"\u00a0":                         0,
		"a\u3000b":                       1,
		"\ufeffa":                        0,
		"\u2212" + "5":                   0,
		"a\u2028b":                       1,
		"\u212a":                         0,
		"5\ufffd":                        1,
		"5 \xed\xa0\x80":                 2,
		"5 \xe2\x88" + "2":               2,
		"a,\xc0\x80":                     2,
		"a,\xc1\xa1":                     2,
		"a\xf4\x90\x80\x80":              1,
		strings.Repeat("a ", 9999) + "*": 19998,
	} {
		check(t, s, syntax(at))
	}
}

// Each byte, alone and with others ahead, behind and on both sides.
func TestEachByte(t *testing.T) {
	for n := range 256 {
		b := string([]byte{byte(n)})
		want := syntax(0)
		switch {
		case b == " " || b == ",":
			want = tokens()
		case b == "\n":
			want = tokens(end(0))
		case n >= 'a' && n <= 'z' || n >= 'A' && n <= 'Z':
			want = tokens(word(0, b))
		case n >= '0' && n <= '9':
			want = tokens(num(0, int64(n-'0')))
		}
		check(t, b, want)
		for _, ahead := range []string{"", "a", "Z", "0", "9", "-", " ", ",", "\n", "a5", "5a", "-5", "a ", "a\n"} {
			for _, behind := range []string{"", "z", "A", "0", "9", "-", "-7", " ", ",", "\n", "\x80", ";"} {
				s := ahead + b + behind
				check(t, s, wanted(s))
			}
		}
	}
}

// The bytes beside those that a token can have, inside of a word and of a
// number.
func TestBytesBeside(t *testing.T) {
	for _, b := range []string{"\x60", "\x7b", "\x40", "\x5b", "\x2f", "\x3a", "\x1f", "\x21", "\x2b", "\x2e", "\x09", "\x0b", "\x0c", "\x0d", "\x00", "\x7f", "\x80", "\x85", "\xa0", "\xff"} {
		check(t, b, syntax(0))
		check(t, " "+b, syntax(1))
		check(t, "ab"+b+"cd", syntax(2))
		check(t, "12"+b+"34", syntax(2))
		check(t, "-12"+b+"-34", syntax(3))
		check(t, "\n"+b+"\n", syntax(1))
		check(t, "-"+b, syntax(0))
	}
}

func TestAllTextsOfTwoBytes(t *testing.T) {
	for n := range 1 << 16 {
		s := string([]byte{byte(n >> 8), byte(n)})
		check(t, s, wanted(s))
	}
}

func TestAllShortTexts(t *testing.T) {
	count := 0
	shorts("aZ05- ,\n;\xc3\xa9", 4, func(s string) {
		count++
		check(t, s, wanted(s))
	})
	shorts("m7- \n", 7, func(s string) {
		count++
		check(t, s, wanted(s))
	})
	if count < 100000 {
		t.Error(count)
	}
}

// No rune beyond 7f begins a token, nor is any part of one, though the low
// byte of many is that of a letter, a digit, a blank.
func TestEachRune(t *testing.T) {
	for r := rune(utf8.RuneSelf); r <= utf8.MaxRune; r++ {
		for i, s := range []string{"", "a", "-5", " ", "\n\n"} {
			if i > 1 && r > 0x3fff {
				break
			}
			check(t, s+string(r)+"5", syntax(len(s)))
		}
		if r < 0x800 {
			check(t, "-"+string(r), syntax(0))
			check(t, "a"+string(r)+"-", syntax(1))
		}
	}
}

// Long texts, made of tokens whose places are known.
func TestTokensOneBehindTheOther(t *testing.T) {
	words := []string{"M", "fill", "z", "A", "Z", "aZbY", strings.Repeat("q", 300)}
	nums := []string{"0", "9", "-1", "00", "-012", "4611686018427387904", "-4611686018427387905", "88"}
	gaps := []string{" ", ",", "  ", " , ", ",,", strings.Repeat(" ", 100)}
	for seed := range 300 {
		var s strings.Builder
		var want []api.Token
		last := 0
		for k := range 200 {
			x := (seed*31+k*k*7+k*seed)%1009 + k
			kind := api.TkWord + x%3
			if kind == last || x%5 == 0 {
				s.WriteString(gaps[x%len(gaps)])
			}
			last = kind
			switch kind {
			case api.TkWord:
				w := words[x/3%len(words)]
				want = append(want, word(s.Len(), w))
				s.WriteString(w)
			case api.TkNum:
				n := nums[x/3%len(nums)]
				want = append(want, num(s.Len(), bounded(n)))
				s.WriteString(n)
			default:
				want = append(want, end(s.Len()))
				s.WriteString("\n")
			}
		}
		check(t, s.String(), tokens(want...))
		check(t, s.String()+" ", tokens(want...))
		check(t, s.String()+" -", syntax(s.Len()+1))
		check(t, s.String()+"\x0d", syntax(s.Len()))
	}
}

// With an error there are no tokens, however many stand ahead of it.
func TestNoTokensWithAnError(t *testing.T) {
	for _, n := range []int{0, 1, 2, 3, 100, 5000} {
		for _, fault := range []string{"-", "- ", "-\n", ".", "\t", "\x80"} {
			s := strings.Repeat("a1\n", n)
			for _, behind := range []string{"", " b2\n", "-"} {
				l, at, e := lex.Cut(s + fault + behind)
				if len(l) != 0 || at != len(s) || e != api.ErrSyntax {
					t.Errorf("%d %q %q: %d tokens, %d, %v", n, fault, behind, len(l), at, e)
				}
			}
		}
	}
}

// The first fault is told, not a later one, nor one of another kind.
func TestFirstOfSeveralFaults(t *testing.T) {
	faults := []string{"- ", "-\n", "-,", "--1", "-a", ".", "\t", "\r", "é", "\xff", "\x80\x80"}
	for _, x := range faults {
		for _, y := range faults {
			for _, ahead := range []string{"", " ", "a", "a ", "7,", "\n", "-8 "} {
				check(t, ahead+x+y, syntax(len(ahead)))
				check(t, ahead+x+"b 5\n"+y, syntax(len(ahead)))
			}
		}
	}
}

// What a token does not have is nothing: a word no N, a number no S, an end
// neither.
func TestFieldsOfTokens(t *testing.T) {
	l, at, e := lex.Cut(" ab -7\n")
	want := []api.Token{{Kind: 1, S: "ab", At: 1}, {Kind: 2, N: -7, At: 4}, {Kind: 3, At: 6}}
	if !slices.Equal(l, want) || at != 0 || e != 0 {
		t.Error(l, at, e)
	}
}
