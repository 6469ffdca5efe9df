package cmd_test

import (
	"strings"
	"testing"

	"gesso/api"
)

// P12.1: errors of limits, their places, and the commands ahead of them.

func TestMaxCmds(t *testing.T) {
	full := first + strings.Repeat("push\n", maxCmds-1)
	if got := parse(full); len(got.list) != maxCmds || got.at != 0 || got.e != api.OK {
		t.Error(got.text())
	}
	ahead := parse(full).list
	check(t, full+"\n ,\n", script(ahead...))
	for _, s := range append(samples()[1:], "tol 0", "matrix 0 0 0 0 0 0", "color 256 0 0 0", "fill M9999999999 0", "dash 0 0 0", "dash -1 0 0", "dash 0"+strings.Repeat(" 1", 18), "clip M0 0"+strings.Repeat("h1", maxSegs)) {
		check(t, full+s, tooMany(len(full), ahead...))
		check(t, full+s+"\n"+s, tooMany(len(full), ahead...))
		check(t, full+" \n "+s+"\ntol 0", tooMany(len(full)+3, ahead...))
	}
	check(t, full+strings.Repeat("pop\n", 3*maxCmds), tooMany(len(full), ahead...))
	check(t, full+"push\njump", syntax(len(full)+5))
	check(t, full+strings.Repeat("push\n", 9000)+"canvas 1 1 1 1 1", syntax(len(full)+45000))
}

// What an earlier command offends goes ahead of those too many.
func TestRangesAheadOfMaxCmds(t *testing.T) {
	many := first + strings.Repeat("push\n", maxCmds-2)
	got := parse(many + "tol 0\n" + strings.Repeat("push\n", 10))
	if len(got.list) != maxCmds-1 || got.at != len(many)+4 || got.e != api.ErrRange {
		t.Error(got.text())
	}
	check(t, first+"tol 0\n"+strings.Repeat("push\n", 2*maxCmds), outside(21, canvas()))
	check(t, "canvas 0 1 1 1 1\n"+strings.Repeat("push\n", 2*maxCmds), outside(7))
}

func TestMaxDash(t *testing.T) {
	for n := range 30 {
		s := first + "push\ndash" + strings.Repeat(" 1", n)
		want := agree(t, s)
		if limit := n > 17 && n%2 == 1; limit != want.equal(tooMany(22, canvas(), command(3, 17))) {
			t.Error(n, want.text())
		}
	}
	// numbers out of their ranges, and lengths that are all 0, go behind it
	for _, x := range []string{" -1", " 0", " 2147483648", " 9999999999999999999"} {
		for _, n := range []int{19, 21, 101, 10001} {
			s := first + "dash" + strings.Repeat(x, n)
			check(t, s, tooMany(17, canvas()))
			check(t, s+"\ntol 0", tooMany(17, canvas()))
			check(t, first+"tol 0\n"+s[17:], outside(21, canvas()))
			check(t, s+" 1", syntax(len(s)+2))
			check(t, s+" x", syntax(len(s)+1))
		}
	}
	check(t, first+"dash"+strings.Repeat(",1", 17)+"\n"+"dash"+strings.Repeat(",1", 19), tooMany(56, canvas(), command(12, 17, 1, 1, 1, 1, 1, 1, 1, 1, 1, 1, 1, 1, 1, 1, 1, 1, 1)))
}

// A path's limit, with its places; each path has parts of its own.
func TestMaxSegs(t *testing.T) {
	many := "M0 0" + strings.Repeat("h1", maxSegs-1)
	for _, word := range []string{"fill", "stroke", "clip"} {
		s := first + "push\n" + word + " " + many
		want := agree(t, s+"\n"+word+" "+many+"\npush")
		if want.e != api.OK || len(want.list) != 5 || len(want.list[3].Path) != maxSegs {
			t.Error(want.text())
		}
		check(t, s+"h1", tooMany(len(s), canvas(), command(3, 17)))
		check(t, s+" 2", tooMany(len(s)+1, canvas(), command(3, 17)))
		check(t, s+"h9999999999\ntol 0", tooMany(len(s), canvas(), command(3, 17)))
		check(t, s+"h1X", syntax(len(s)+2))
		check(t, s+"h1\njump", syntax(len(s)+3))
		check(t, strings.Replace(s, "M0 0", "M9999999999 0", 1)+"h1", outside(24+len(word), canvas(), command(3, 17)))
	}
}

// lex's limit goes ahead of all.
func TestMaxText(t *testing.T) {
	s := first + strings.Repeat(" ", maxText-len(first))
	check(t, s, script(canvas()))
	check(t, s+" ", tooMany(0))
	check(t, s+"\n", tooMany(0))
	check(t, s+";", tooMany(0))
	check(t, s[:maxText-1]+";", syntax(maxText-1))
	check(t, strings.Repeat(";", maxText+1), tooMany(0))
	check(t, strings.Repeat("\n", maxText+1), tooMany(0))
	check(t, strings.Repeat("push\n", maxText), tooMany(0))
	long := first + strings.Repeat("push\n", (maxText-17)/5)
	agree(t, long)
	dash := first + "dash" + strings.Repeat(" 1", 524277)
	check(t, dash, tooMany(17, canvas()))
	check(t, dash[:len(dash)-2], syntax(len(dash)-2))
	agree(t, first+"fill M1 1"+strings.Repeat(" 1", (maxText-27)/2))
	agree(t, first+strings.Repeat("clip M1 1 1 1\nfill m1 1z\n", (maxText-17)/25))
}
