package cmd_test

import (
	"slices"
	"strings"
	"testing"

	"gesso/api"
)

// P12.1: errors of ranges, their places, and the commands ahead of them.

// A bound is a command with one number left out, and the least and the
// greatest one that may stand there.
type bound struct {
	s         string
	low, high int64
}

func bounds() []bound {
	l := []bound{
		{"canvas # 1 0 0 0", 1, 8192}, {"canvas 1 # 0 0 0", 1, 8192},
		{"canvas 1 1 # 0 0", 0, 255}, {"canvas 1 1 0 # 0", 0, 255}, {"canvas 1 1 0 0 #", 0, 255},
		{"matrix # 1 -1 0 0 0", -most, most}, {"matrix 0 # -1 1 0 0", -most, most}, {"matrix 0 1 # 1 0 0", -most, most}, {"matrix 0 1 -1 # 0 0", -most, most},
		{"matrix 1 0 0 1 # 0", -most, most}, {"matrix 1 0 0 1 0 #", -most, most},
		{"color # 0 0 0", 0, 255}, {"color 0 # 0 0", 0, 255}, {"color 0 0 # 0", 0, 255}, {"color 0 0 0 #", 0, 255},
		{"tol #", 1, 1048576}, {"width #", -most, most}, {"miter #", 64, 4096},
		{"dash # 1 1", 0, most}, {"dash 0 # 1", 0, most}, {"dash 0 1 #", 0, most}, {"dash 0 1 1 1 #", 0, most},
	}
	long := "dash" + strings.Repeat(" 1", 16)
	return append(l, bound{long + " #", 0, most}, bound{strings.Replace(long, " 1", " #", 1) + " 1", 0, most})
}

// hasNumber tells whether a number can stand there; 0 can't where it would
// leave a matrix without an inverse.
func (b bound) hasNumber(n int64) bool {
	if strings.HasPrefix(b.s, "matrix 0 #") || strings.HasPrefix(b.s, "matrix 0 1 #") {
		return n != 0 && n >= b.low && n <= b.high
	}
	return n >= b.low && n <= b.high
}

func TestEndsOfRanges(t *testing.T) {
	for _, b := range bounds() {
		values := []int64{b.low - 2, b.low - 1, b.low, b.low + 1, b.high - 1, b.high, b.high + 1, b.high + 2, 0, 1, -1, -b.low, -b.high, 64, 255, 256, 1 << 31, -1 << 31, 1 << 32, 1<<32 + 1, 1<<32 + 64, 1 << 62, -1 << 62, 1<<62 - 1}
		for _, v := range values {
			s, ahead := strings.Replace(b.s, "#", text(v), 1), first
			at := strings.Index(b.s, "#")
			if strings.HasPrefix(b.s, "canvas") {
				ahead = ""
			}
			want := agree(t, ahead+s)
			if ahead != "" {
				want.list = want.list[1:]
			}
			switch {
			case b.hasNumber(v):
				if want.e != api.OK || len(want.list) != 1 {
					t.Errorf("%q: %s", s, want.text())
				}
			case v < b.low || v > b.high:
				if !want.equal(outside(len(ahead) + at)) {
					t.Errorf("%q: %s", s, want.text())
				}
			default: // a matrix without an inverse
				if !want.equal(outside(len(ahead))) {
					t.Errorf("%q: %s", s, want.text())
				}
			}
			agree(t, ahead+s+"\ntol 0")
			agree(t, ahead+strings.Replace(b.s, "#", text(v)+"0000000000000000000000", 1))
		}
	}
}

func TestFewRanges(t *testing.T) {
	check(t, "canvas 0 1 1 1 1", outside(7))
	check(t, "canvas 1 8193 1 1 1", outside(9))
	check(t, "canvas 1 1 256 -1 1", outside(11))
	check(t, "canvas 8193 0 256 256 256\ntol 0", outside(7))
	check(t, "canvas 1 1 0 0 -1", outside(15))
	check(t, first+"tol 0", outside(21, canvas()))
	check(t, first+"tol 1048577", outside(21, canvas()))
	check(t, first+"tol 1048576", script(canvas(), command(7, 17, 1048576)))
	check(t, first+"width 2147483648", outside(23, canvas()))
	check(t, first+"width -2147483648", outside(23, canvas()))
	check(t, first+"width -2147483647", script(canvas(), command(8, 17, -most)))
	check(t, first+"miter 63", outside(23, canvas()))
	check(t, first+"miter 4097", outside(23, canvas()))
	check(t, first+"color 0 -1 256 0", outside(25, canvas()))
	check(t, first+"color 0 0 0 256", outside(29, canvas()))
	check(t, first+"dash 2147483648 0 0", outside(22, canvas()))
	check(t, first+"dash 2147483647 0 2147483647", script(canvas(), command(12, 17, most, 0, most)))
}

// The earliest command is told, not the one with the first kind of error; with
// all commands ahead of it.
func TestCommandsAheadOfRanges(t *testing.T) {
	check(t, first+"push\nrule evenodd\ntol 0\ntol 0", outside(39, canvas(), command(3, 17), command(5, 22, 1)))
	check(t, first+"tol 0\nfill M9999999999 0", outside(21, canvas()))
	check(t, first+"fill M9999999999 0\ntol 0", outside(23, canvas()))
	check(t, first+"dash 1 2 3\nfill M1 2\nclip M1 2L0 2147483648", outside(50, canvas(), command(12, 17, 1, 2, 3), drawing(13, 28, part(1, 0, 1, 2))))
	bad := []string{"tol 0", "color 0 0 0 256", "matrix 0 0 0 0 0 0", "dash 0 0 0", "fill M9999999999 0", "clip M0 0K0 1 1 1 1", "width 99999999999"}
	for n := range 40 {
		s := first + strings.Repeat("push\n", n)
		for _, b := range bad {
			want := agree(t, s+b)
			if want.e != api.ErrRange || len(want.list) != n+1 {
				t.Error(n, b, want.text())
			}
			check(t, s+b+"\npush\npop", want)
			for _, c := range bad {
				check(t, s+b+"\n"+c, want)
			}
		}
	}
}

func TestMatrixWithoutInverse(t *testing.T) {
	for _, s := range []string{"0 0 0 0", "1 2 2 4", "1 0 0 0", "0 1 0 0", "0 0 1 0", "0 0 0 1", "1 1 1 1", "-1 1 1 -1", "2 -3 -4 6", "65536 65536 65536 65536", "2147483647 2147483647 2147483647 2147483647", "-2147483647 2147483647 2147483647 -2147483647", "2147483646 1073741823 2 1", "0 -2147483647 0 2147483647", "65536 32768 2 1"} {
		check(t, first+"matrix "+s+" 0 0", outside(17, canvas()))
		check(t, first+"push\nmatrix "+s+" 5 -6\ntol 0", outside(22, canvas(), command(3, 17)))
		at := 25 + len(s)
		check(t, first+"matrix "+s+" 2147483648 0", outside(at, canvas()))
		check(t, first+"matrix "+s+" 0 -2147483648", outside(at+2, canvas()))
		check(t, first+"matrix "+s+" 2147483648 -2147483648", outside(at, canvas()))
	}
}

// Matrices whose A D and B C are near each other, or far beyond what 32 or 64
// bits hold; some of them would be 0 if it wrapped round.
func TestMatrixWithInverse(t *testing.T) {
	for _, s := range []string{"1 0 0 1", "0 1 1 0", "0 1 -1 0", "1 2 3 4", "2147483647 2147483646 2147483647 2147483647", "2147483647 -2147483647 2147483647 2147483647", "-2147483647 2147483647 2147483647 2147483647", "65536 0 0 65536", "65536 65536 -65536 65536", "1 0 1431655765 2147483647", "2147483647 2147483646 2147483646 2147483645", "1073741824 0 0 4", "65536 1 0 65536", "1 1 -1 1", "2147483646 2147483647 2147483645 2147483646"} {
		want := agree(t, first+"matrix "+s+" 2147483647 -2147483647")
		if want.e != api.OK || len(want.list) != 2 {
			t.Error(s, want.text())
		}
	}
	values := []string{"-2147483647", "-65536", "-2", "-1", "0", "1", "2", "3", "65536", "2147483647", "2147483648"}
	for _, a := range values {
		for _, b := range values {
			for _, c := range values {
				for _, d := range values {
					agree(t, first+"matrix "+a+" "+b+" "+c+" "+d+" 0 0")
				}
			}
		}
	}
}

// How far a dash is gone already is no length: of lengths that are all 0 the
// place is the word's.
func TestLengthsThatAreNone(t *testing.T) {
	for _, n := range []int{2, 4, 6, 14, 16} {
		for _, o := range []string{"0", "1", "-0", "7", "2147483647"} {
			s := first + "pop\ndash " + o + strings.Repeat(" 0", n)
			check(t, s, outside(21, canvas(), command(4, 17)))
			check(t, s+"\npush", outside(21, canvas(), command(4, 17)))
			for i := range n {
				one := slices.Repeat([]string{"0"}, n)
				one[i] = "1"
				if want := agree(t, first+"dash "+o+" "+strings.Join(one, " ")); want.e != api.OK {
					t.Error(o, one, want.text())
				}
				one[i] = "-1"
				check(t, first+"dash "+o+" "+strings.Join(one, " "), outside(23+len(o)+2*i, canvas()))
			}
		}
		check(t, first+"dash -1"+strings.Repeat(" 0", n), outside(22, canvas()))
		check(t, first+"dash 2147483648"+strings.Repeat(" 0", n), outside(22, canvas()))
	}
}

func TestRangesOfPaths(t *testing.T) {
	for s, at := range map[string]int{
		" M2147483648 0": 2, " M0 -2147483648": 4, " M 2147483647 0 l 0 0 1 0": 22, " M0 0K0 1 2 3 4": 6, " M0 0K4097 1 2 3 4": 6, " M0 0Q-2147483647 0 2147483647 0T5 5": 32, " m1 1h9999999999": 6,
	} {
		for kind, word := range []string{"fill", "stroke", "clip"} {
			ahead := first + "fill M1 2\n" + word
			for _, behind := range []string{"", "\n", "\npush", "\ntol 0", "h0", "\nfill M0 9999999999"} {
				check(t, ahead+s+behind, outside(len(ahead)+at, canvas(), drawing(13, 17, part(1, 0, 1, 2))))
			}
			check(t, first+word+" M1 2", script(canvas(), drawing(13+kind, 17, part(1, 0, 1, 2))))
		}
	}
}
