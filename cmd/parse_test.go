package cmd_test

import (
	"strings"
	"testing"

	"gesso/api"
)

// P12.1: scripts that have no error.

func TestCanvasAlone(t *testing.T) {
	check(t, "canvas 2 3 4 5 6", script(command(1, 0, 2, 3, 4, 5, 6)))
	check(t, "canvas 2 3 4 5 6\n", script(command(1, 0, 2, 3, 4, 5, 6)))
	check(t, "canvas 2 2 0 0 0", script(command(1, 0, 2, 2, 0, 0, 0)))
	check(t, "canvas8192 1-0 255,0", script(command(1, 0, 8192, 1, 0, 255, 0)))
	check(t, "\n ,\n\n  canvas,1,1,,00255, 0 -000 , \n\n,\n", script(command(1, 7, 1, 1, 255, 0, 0)))
}

func TestCommandsOfNumbers(t *testing.T) {
	check(t, first+"push\npop\npop", script(canvas(), command(3, 17), command(4, 22), command(4, 26)))
	check(t, first+"matrix 1 -2 3 -4 5 -6", script(canvas(), command(2, 17, 1, -2, 3, -4, 5, -6)))
	check(t, first+"matrix-1-2-3-4-5-6", script(canvas(), command(2, 17, -1, -2, -3, -4, -5, -6)))
	check(t, first+"color 1 2 3 4\n\n color 0 0 0 0", script(canvas(), command(6, 17, 1, 2, 3, 4), command(6, 33, 0, 0, 0, 0)))
	check(t, first+"tol 5\nwidth -6\nwidth 0\nmiter 64", script(canvas(), command(7, 17, 5), command(8, 23, -6), command(8, 32, 0), command(11, 40, 64)))
}

func TestCommandsOfWords(t *testing.T) {
	check(t, first+"rule nonzero\nrule evenodd", script(canvas(), command(5, 17, 0), command(5, 30, 1)))
	check(t, first+"cap butt\ncap square\ncap round", script(canvas(), command(9, 17, 0), command(9, 26, 1), command(9, 37, 2)))
	check(t, first+"join miter\njoin bevel\njoin round", script(canvas(), command(10, 17, 0), command(10, 28, 1), command(10, 39, 2)))
	check(t, first+"cap,,square ,\n", script(canvas(), command(9, 17, 1)))
}

func TestDashes(t *testing.T) {
	check(t, first+"dash", script(canvas(), command(12, 17)))
	check(t, first+"dash\n\ndash 1 2 3\ndash", script(canvas(), command(12, 17), command(12, 23, 1, 2, 3), command(12, 34)))
	check(t, first+"dash 0 0 1", script(canvas(), command(12, 17, 0, 0, 1)))
	check(t, first+"dash 0 1 0", script(canvas(), command(12, 17, 0, 1, 0)))
	check(t, first+"dash 5 4 3 2 1", script(canvas(), command(12, 17, 5, 4, 3, 2, 1)))
	n := []int64{0, 1, 2, 3, 4, 5, 6, 7, 8, 9, 10, 11, 12, 13, 14, 15, 16}
	check(t, first+"dash 0 1 2 3 4 5 6 7 8 9 10 11 12 13 14 15 16\npush", script(canvas(), command(12, 17, n...), command(3, 63)))
	check(t, first+"dash 0 1 2 3 4 5 6 7 8 9 10 11 12 13 14", script(canvas(), command(12, 17, n[:15]...)))
}

func TestPaths(t *testing.T) {
	move, line, done := part(api.Move, 0, 1, 2), part(api.Line, 0, 4, 6), part(api.Close, 0)
	check(t, first+"fill M1 2", script(canvas(), drawing(13, 17, move)))
	check(t, first+"stroke M1 2l3 4", script(canvas(), drawing(14, 17, move, line)))
	check(t, first+"clip m 1 2 3 4 z", script(canvas(), drawing(15, 17, move, line, done)))
	check(t, first+"fill M1 2\nfill M1 2Z\nclip M1 2\nstroke M1 2", script(canvas(), drawing(13, 17, move), drawing(13, 27, move, done), drawing(15, 38, move), drawing(14, 48, move)))
	check(t, first+"fill,M,1,2,K,9,1,2,3,4", script(canvas(), drawing(13, 17, move, part(api.Conic, 9, 1, 2, 3, 4))))
	check(t, first+"fill M1 2Q1 2 3 4T5 6C1 2 3 4 5 6", script(canvas(), drawing(13, 17, move, part(api.Quad, 0, 1, 2, 3, 4), part(api.Quad, 0, 5, 6, 5, 6), part(api.Cubic, 0, 1, 2, 3, 4, 5, 6))))
}

// Each path begins anew: where the one ahead of it has come to, and which part
// was its last one, is forgotten.
func TestPathsDoNotGoOn(t *testing.T) {
	move, quad := part(api.Move, 0, 1, 2), part(api.Quad, 0, 3, 4, 5, 6)
	check(t, first+"fill M1 2Q3 4 5 6\nfill m1 2t4 4", script(canvas(), drawing(13, 17, move, quad), drawing(13, 35, move, part(api.Quad, 0, 1, 2, 5, 6))))
	check(t, first+"fill M1 2Q3 4 5 6\nstroke T1 1", syntax(42))
	check(t, first+"fill M1 2\n1 2", syntax(27))
	check(t, first+"fill M1 2\nL1 2", syntax(27))
}

// Commands may come again and in any order; only canvas is at the beginning.
func TestOrderOfCommands(t *testing.T) {
	for _, a := range samples()[1:] {
		for _, b := range samples()[1:] {
			s := first + a + "\n" + b
			if want := agree(t, s); want.e != api.OK || len(want.list) != 3 {
				t.Errorf("%q: the test itself", s)
			}
		}
	}
}

// samples are a command of each kind.
func samples() []string {
	return strings.Split("canvas 2 3 0 0 0;matrix 1 0 0 1 5 6;push;pop;rule evenodd;color 1 2 3 4;tol 5;width 6;cap square;join bevel;miter 99;dash 1 2 3;fill M1 2L3 4;stroke M1 2;clip M1 2z", ";")
}

// Gaps, and lines without a token, change places alone.
func TestGaps(t *testing.T) {
	for _, gap := range []string{" ", ",", " , ", ",,   "} {
		for _, end := range []string{"\n", "\n\n", " \n,\n ", ",\n \n"} {
			var l []string
			for _, s := range samples() {
				l = append(l, strings.ReplaceAll(s, " ", gap))
			}
			s := end + strings.Join(l, end)
			for _, s := range []string{s, s + gap, s + end, s + end + gap} {
				if want := agree(t, s); want.e != api.OK || len(want.list) != 15 {
					t.Errorf("%q: the test itself", s)
				}
			}
		}
	}
}

// The other implementation over random scripts: right ones, and such with a
// token more, fewer, or another one.
func TestRandomScripts(t *testing.T) {
	d := dice(3)
	seen := map[api.Errno]int{}
	for range 20000 {
		s := randomScript(&d)
		seen[agree(t, s).e]++
		if d.throw(4) == 0 {
			agree(t, s+d.one("\n", " ", "\npush", " 1", "\ncanvas", "x", "-", "\ntol 0"))
		}
	}
	if len(seen) != 4 {
		t.Error(seen)
	}
}

// randomScript is mostly right.
func randomScript(d *dice) string {
	l := []string{"canvas " + d.one("1", "2", "8192") + " 5 0 0 255"}
	for range d.throw(6) {
		l = append(l, randomLine(d))
	}
	if d.throw(20) == 0 {
		l[0] = randomLine(d)
	}
	return strings.Join(l, d.one("\n", "\n", "\n\n", " \n "))
}

func randomNumber(d *dice) string {
	return d.one("0", "1", "2", "64", "255", "4096", "-1", "00", "-7", "256", "65", "100", "200", "2147483647", "2147483648", "9999999999999999999999")
}

func randomLine(d *dice) string {
	word := all[d.throw(len(all))]
	l := []string{word}
	count := map[string]int{"canvas": 5, "matrix": 6, "color": 4, "tol": 1, "width": 1, "miter": 1, "dash": 1 + 2*d.throw(10)}[word]
	for range count {
		n := d.one("1", "64", "65", "100", "200", "255")
		if d.throw(30) == 0 {
			n = randomNumber(d)
		}
		l = append(l, n)
	}
	switch word {
	case "rule":
		l = append(l, d.one("nonzero", "evenodd"))
	case "cap":
		l = append(l, d.one("butt", "square", "round"))
	case "join":
		l = append(l, d.one("miter", "bevel", "round"))
	case "fill", "stroke", "clip":
		l = append(l, d.one("M1 2", "M1 2L3 4Z", "m5-6h7v8", "M0 0Q1 2 3 4", "M0 0K5 1 2 3 4", "M1 2ZL3 4"))
	}
	switch d.throw(40) {
	case 0:
		l = l[:len(l)-1]
	case 1:
		l = append(l, d.one(randomNumber(d), "push", "M", "L1", "round", "x"))
	case 2:
		l[d.throw(len(l))] = d.one(randomNumber(d), "nonzero", "Z", "x", "fill", "M1 2")
	}
	return strings.Join(l, d.one(" ", ","))
}
