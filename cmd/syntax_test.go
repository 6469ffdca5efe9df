package cmd_test

import (
	"strings"
	"testing"

	"gesso/api"
)

// P12.1: errors of syntax, and their places.

func TestNoCommand(t *testing.T) {
	for _, s := range []string{"", "\n", " ", ",", "\n\n", " \n ,,\n ", strings.Repeat("\n", 5000), strings.Repeat(" ", maxText)} {
		check(t, s, syntax(len(s)))
	}
}

func TestFirstCommandIsCanvas(t *testing.T) {
	for _, s := range samples()[1:] {
		check(t, s, syntax(0))
		check(t, " "+s+"\n"+first, syntax(1))
		check(t, "\n\n"+s, syntax(2))
		check(t, "\n,"+s+" \n"+s, syntax(2))
	}
}

func TestOneCanvasAlone(t *testing.T) {
	check(t, first+first, syntax(17))
	check(t, first+"\n ,"+first, syntax(20))
	check(t, first+"canvas", syntax(17))
	check(t, first+"canvas 0 0 0 0 0", syntax(17))
	check(t, first+"push\npop\ncanvas 2 3 0 0 0\npush", syntax(26))
	for _, s := range samples()[1:] {
		check(t, first+s+"\n"+first, syntax(18+len(s)))
	}
}

// What is no command's word, or no word at all, begins no line.
func TestWordsThatAreNone(t *testing.T) {
	for _, s := range []string{"jump", "Canvas", "CANVAS", "canvass", "canva", "c", "M", "M1 2", "L", "z", "nonzero", "evenodd", "butt", "square", "round", "bevel", "fillM1 2", "pushpop", "Push", "FILL M1 2", "capbutt", "rulenonzero", "opacity 1", "end", "0", "1", "-1", "1 push", "9999999999999999999999", "0 0 0"} {
		check(t, s, syntax(0))
		check(t, first+s, syntax(17))
		check(t, first+"\n , "+s+"\npush", syntax(21))
		check(t, first+"push\n"+s+"\n"+s, syntax(22))
	}
}

// Each command with one thing too few and one too many, at the text's end, at
// a line's end, and behind a gap.
func TestTooFewAndTooMany(t *testing.T) {
	few := []string{"canvas", "canvas 2", "canvas 2 3", "canvas 2 3 0", "canvas 2 3 0 0", "matrix", "matrix 1 0 0", "matrix 1 0 0 1", "matrix 1 0 0 1 0", "rule", "color", "color 1", "color 1 2 3", "tol", "width", "cap", "join", "miter", "dash 1", "dash 1 2", "dash 1 2 3 4", "dash 1 2 3 4 5 6", "fill", "stroke", "clip", "fill M", "stroke M1", "clip M1 2L", "fill M1 2L3", "clip M1 2ZL"}
	for _, s := range few {
		ahead := first
		if strings.HasPrefix(s, "canvas") {
			ahead = ""
		}
		at := len(ahead) + len(s)
		check(t, ahead+s, syntax(at))
		check(t, ahead+s+"\n", syntax(at))
		check(t, ahead+s+"\n\npush", syntax(at))
		check(t, ahead+s+" ,", syntax(at+2))
		check(t, ahead+s+" ,\npush", syntax(at+2))
		check(t, ahead+s+"\njump", syntax(at))
	}
	for i, s := range samples() {
		ahead := first
		if i == 0 {
			ahead = ""
		}
		for _, more := range []string{"1", "-1", "push", "canvas", "nonzero", "x", "0 0", "1 x", "x 1"} {
			if at := len(ahead) + len(s) + 1; i < 11 {
				check(t, ahead+s+" "+more, syntax(at))
				check(t, ahead+s+"\n"+ahead, agree(t, ahead+s+"\n"+ahead))
				check(t, ahead+s+" "+more+"\njump", syntax(at))
			}
			agree(t, ahead+s+" "+more)
		}
	}
	check(t, first+"dash 1 2 3 x", syntax(28))
	check(t, first+"dash x", syntax(22))
	check(t, first+"clip M1 2z 3", syntax(28))
	check(t, first+"fill M1 2 push", syntax(27))
	check(t, first+"stroke M1 2 nonzero", syntax(29))
}

// A number where a word stands, a word where a number stands: each thing of
// each command.
func TestOtherThings(t *testing.T) {
	for i, s := range samples()[:12] {
		ahead := first
		if i == 0 {
			ahead = ""
		}
		things := strings.Fields(s)
		for k := range things {
			for _, other := range []string{"0", "-5", "9999999999", "x", "push", "nonzero", "round", "M"} {
				l := append([]string{}, things...)
				l[k] = other
				text := ahead + strings.Join(l, " ")
				place := len(text) - len(strings.Join(l[k:], " "))
				want := agree(t, text)
				isNumber := strings.Contains("-0123456789", things[k][:1])
				otherIs := strings.Contains("-0123456789", other[:1])
				if isNumber != otherIs && !want.equal(syntax(place)) {
					t.Errorf("%q: %s, the test itself", text, want.text())
				}
			}
		}
	}
}

func TestNamesOfCommands(t *testing.T) {
	names := strings.Fields("nonzero evenodd butt square round miter bevel push canvas M z NonZero Nonzero nonzer nonzeroo BUTT Round roundd odd zero even x")
	for word, own := range map[string]string{"rule": "nonzero evenodd", "cap": "butt square round", "join": "miter bevel round"} {
		for _, name := range names {
			s := first + word + " " + name
			which := -1
			for i, x := range strings.Fields(own) {
				if x == name {
					which = i
				}
			}
			if which < 0 {
				check(t, s, syntax(18+len(word)))
				check(t, s+" 1", syntax(18+len(word)))
				check(t, s+" "+own, syntax(18+len(word)))
				continue
			}
			kind := map[string]int{"rule": 5, "cap": 9, "join": 10}[word]
			check(t, s, script(canvas(), command(kind, 17, int64(which))))
			check(t, s+" "+name, syntax(len(s)+1))
			check(t, s+"-1", syntax(len(s)))
			check(t, s+name, syntax(18+len(word)))
		}
		check(t, first+word+"\nnonzero", syntax(17+len(word)))
	}
}

// The number of a dash's numbers, from none on.
func TestCountsOfDash(t *testing.T) {
	for n := range 60 {
		for _, ahead := range []string{"dash", "dash 5", "dash-1"} {
			s := first + ahead + strings.Repeat(" 1", n)
			count := n
			if ahead != "dash" {
				count++
			}
			want := agree(t, s)
			if wrong := count == 1 || count > 0 && count%2 == 0; wrong != want.equal(syntax(len(s))) {
				t.Error(s, want.text())
			}
			agree(t, s+"\npush")
			agree(t, s+" x")
			agree(t, s+" \njump")
		}
	}
}

func TestSyntaxOfPaths(t *testing.T) {
	for s, at := range map[string]int{
		"":                               0,
		" ":                              1,
		" 5":                             1,
		" L1 2":                          1,
		" z":                             1,
		" M":                             2,
		" M1 ":                           4,
		" M1 2 3":                        7,
		" M1 2X":                         5,
		" M1 2 ZZ":                       7,
		" MZ":                            2,
		" M1 2L3 4HV5":                   10,
		" M1 2 round":                    6,
		" M1 2K1 2":                      9,
		" M9999999999 0L":                15,
		" M0 0K0 1 1 1 1T":               16,
		strings.Repeat(" M1 1", 5000):    -1,
		" M0" + strings.Repeat(" 1", 99): -1,
	} {
		for _, word := range []string{"fill", "stroke", "clip"} {
			ahead := first + "push\n" + word
			for _, behind := range []string{"", "\n", "\npush", "\njump"} {
				want := agree(t, ahead+s+behind)
				if at >= 0 && !want.equal(syntax(len(ahead)+at)) {
					t.Errorf("%q: %s, the test itself", s, want.text())
				}
			}
		}
	}
}

// Of several errors of syntax the first one is told; and one of syntax goes
// ahead of those of limits and ranges, on whatever line.
func TestSyntaxGoesAhead(t *testing.T) {
	late := []string{"tol 0", "color 0 0 0 256", "matrix 0 0 0 0 0 0", "matrix 1 0 0 9999999999 0 0", "dash 0 0 0", "dash -1 0 0", "dash 0" + strings.Repeat(" 1", 18), "fill M9999999999 0", "clip M0 0K0 1 1 1 1", "stroke M0 0" + strings.Repeat("h1", maxSegs), strings.Repeat("push\n", maxCmds)}
	wrong := []string{"jump", "5", "push 1", "tol x", "rule 1", "fill", "dash 1", "canvas 1 1 1 1 1", "clip M0 0L"}
	for _, a := range late {
		if e := parse(first + a).e; e != api.ErrRange && e != api.ErrLimit {
			t.Error(a, e)
		}
		for _, b := range wrong {
			alone := agree(t, first+b)
			if alone.e != api.ErrSyntax {
				t.Error(b, alone.e)
			}
			check(t, first+b+"\n"+a, alone)
			check(t, first+a+"\n"+b, syntax(alone.at+len(a)+1))
			check(t, first+a+"\n"+b+"\n"+b, syntax(alone.at+len(a)+1))
		}
	}
	check(t, first+"tol 0 1", syntax(23))
	check(t, first+"tol 0 x\ntol x", syntax(23))
	check(t, first+"color 256 -1 0", syntax(31))
	check(t, first+"matrix 9999999999 0 x", syntax(37))
	check(t, first+"dash -1 0 0 0", syntax(30))
	check(t, first+"dash"+strings.Repeat(" 1", 18), syntax(57))
	check(t, first+"dash"+strings.Repeat(" 1", 1000), syntax(2021))
	check(t, "canvas 0 0 -1 256 0 0", syntax(20))
	check(t, "canvas 0 0 -1 256", syntax(17))
	check(t, "canvas 0 0 -1 256 0\npush 1", syntax(25))
}

// lex's errors go ahead of all others.
func TestErrorsOfLex(t *testing.T) {
	for _, s := range []string{";", "-", "é", "#", "\t", "\r", "+", ".", "\x00", "\xff", "_", "-x", "--1"} {
		for _, ahead := range []string{"", first, "push\n", "jump ", "tol", first + "tol 0\n", first + "dash 1 ", first + "fill M1 2 ", first + "fill M1 2"} {
			check(t, ahead+s, syntax(len(ahead)))
			check(t, ahead+s+"\npush", syntax(len(ahead)))
			check(t, ahead+s+s, syntax(len(ahead)))
		}
	}
	check(t, "canvas 1 1 1 1;", syntax(14))
	check(t, "push;", syntax(4))
	check(t, "canvas 1.5 1 1 1 1", syntax(8))
}

// All lines of at most four tokens behind each command's word.
func TestAllShortLines(t *testing.T) {
	things := []string{"0", "1", "-1", "64", "99999999999", "x", "round", "nonzero", "M"}
	var grow func(s string, n int)
	grow = func(s string, n int) {
		agree(t, s)
		if n == 0 {
			return
		}
		for _, x := range things {
			grow(s+" "+x, n-1)
		}
	}
	for _, word := range all {
		grow(word, 3)
		grow(first+word, 4)
	}
}
