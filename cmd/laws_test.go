package cmd_test

import (
	"slices"
	"strings"
	"testing"

	"gesso/api"
	"gesso/cmd"
	"gesso/path"
)

// P12.3: Parse of Text is the commands, but for At; and what Parse tells is
// good.

// plain is the text of l, by another implementation, and l with its places in
// that.
func plain(l []api.Cmd) (string, []api.Cmd) {
	names := map[int]string{5: "nonzero evenodd", 9: "butt square round", 10: "miter bevel round"}
	s, placed := "", slices.Clone(l)
	for i, c := range l {
		placed[i].At = len(s)
		words := []string{all[c.Kind-1]}
		for _, n := range c.N {
			if list, ok := names[c.Kind]; ok {
				words = append(words, strings.Fields(list)[n])
			} else {
				words = append(words, text(n))
			}
		}
		if len(c.Path) > 0 {
			p, _ := path.Text(c.Path)
			words = append(words, p)
		}
		s += strings.Join(words, " ") + "\n"
	}
	return s, placed
}

func checkBack(t *testing.T, l []api.Cmd) {
	t.Helper()
	want, placed := plain(l)
	s, e := cmd.Text(l)
	if !cmd.Good(l) || e != api.OK || s != want {
		t.Fatalf("%s: %q, not %q: %v", script(l...).text(), s[:min(len(s), 200)], want[:min(len(want), 200)], e)
	}
	check(t, s, script(placed...))
}

// checkTold tells whether what Parse tells of s, with an error or without one,
// is good.
func checkTold(t *testing.T, s string) {
	t.Helper()
	a := parse(s)
	if (a.e == api.ErrSyntax || a.e == api.OK) && (len(a.list) > 0) != (a.e == api.OK) {
		t.Errorf("%q: %s", s[:min(len(s), 200)], a.text())
	}
	if len(a.list) > 0 {
		checkBack(t, a.list)
	}
}

func TestToldIsGood(t *testing.T) {
	d := dice(8)
	for range 10000 {
		checkTold(t, randomScript(&d))
	}
	for _, s := range samples()[1:] {
		checkTold(t, first+s)
		checkTold(t, first+s+"\nwidth 99999999999\npush")
		checkTold(t, first+s+"\n"+strings.Repeat("push\n", maxCmds))
	}
	checkTold(t, strings.Join(samples(), "\n"))
}

func goodPath(d *dice) []api.Seg {
	l := []api.Seg{part(api.Move, 0, int64(d.throw(most)), -int64(d.throw(1000)))}
	for range d.throw(6) {
		x, y := int64(d.throw(2000)-1000), int64(d.throw(most))
		switch d.throw(4) {
		case 0:
			l = append(l, part(api.Line, 0, x, y))
		case 1:
			l = append(l, part(api.Cubic, 0, x, y, y, x, -x, -y))
		case 2:
			l = append(l, part(api.Conic, int64(1+d.throw(4096)), x, x, y, y))
		case 3:
			if l[len(l)-1].Kind != api.Close {
				l = append(l, part(api.Close, 0))
			}
		}
	}
	return l
}

// goodCommand is a command of that kind, at a place that is not looked at.
func goodCommand(d *dice, kind int) api.Cmd {
	number := func(low, high int) int64 {
		return int64(low + d.throw(high-low+1))
	}
	at := d.throw(1000) - 500
	switch kind {
	case 1:
		return command(1, at, number(1, 8192), number(1, 8192), number(0, 255), number(0, 255), number(0, 255))
	case 2:
		return command(2, at, number(1, most), number(-most, 0), number(1, most), number(1, most), number(-most, most), number(-most, most))
	case 5:
		return command(5, at, number(0, 1))
	case 6:
		return command(6, at, number(0, 255), number(0, 255), number(0, 255), number(0, 255))
	case 7:
		return command(7, at, number(1, 1<<20))
	case 8:
		return command(8, at, number(-most, most))
	case 9, 10:
		return command(kind, at, number(0, 2))
	case 11:
		return command(11, at, number(64, 4096))
	case 12:
		c := command(12, at)
		for range 1 + 2*d.throw(9) {
			c.N = append(c.N, number(1, most))
		}
		if len(c.N) == 1 {
			c.N = nil
		}
		return c
	case 13, 14, 15:
		return drawing(kind, at, goodPath(d)...)
	}
	return command(kind, at)
}

func TestTextAndBack(t *testing.T) {
	d := dice(6)
	for n := range 3000 {
		l := []api.Cmd{goodCommand(&d, 1)}
		for range n % 30 {
			l = append(l, goodCommand(&d, 2+d.throw(14)))
		}
		checkBack(t, l)
	}
}

// As many commands as there may be, of each kind.
func TestMaxCmdsAndBack(t *testing.T) {
	d := dice(7)
	for kind := 2; kind < 16; kind++ {
		l := []api.Cmd{goodCommand(&d, 1)}
		for range maxCmds - 1 {
			l = append(l, goodCommand(&d, kind))
		}
		checkBack(t, l)
	}
}
