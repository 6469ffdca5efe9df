package halve_test

import (
	"math/big"
	"testing"

	"gesso/api"
	"gesso/halve"
	"gesso/rat"
)

// P14.1: Cut.

func TestCutOfFew(t *testing.T) {
	for i, x := range []struct{ l, left, right string }{
		{"0 0 1; 1 2 1; 2 0 1", "0 0 1; 1/2 1 1; 1 1 1; ", "1 1 1; 3/2 1 1; 2 0 1; "},
		{"0 0 1; 2 4 1", "0 0 1; 1 2 1; ", "1 2 1; 2 4 1; "},
		{"2 4 1; 0 0 1", "2 4 1; 1 2 1; ", "1 2 1; 0 0 1; "},
		{"0 0 1; 4 2 3", "0 0 1; 2 1 2; ", "2 1 2; 4 2 3; "},
		{"1/3 -1 1/2; 1/2 1 1/3", "1/3 -1 1/2; 5/12 0 5/12; ", "5/12 0 5/12; 1/2 1 1/3; "},
		{"1 0 1; 1 1 1; 0 2 2", "1 0 1; 1 1/2 1; 3/4 1 5/4; ", "3/4 1 5/4; 1/2 3/2 3/2; 0 2 2; "},
		{"0 0 1; 0 0 4096; 1 0 1", "0 0 1; 0 0 4097/2; 1/4 0 4097/2; ", "1/4 0 4097/2; 1/2 0 4097/2; 1 0 1; "},
		{"0 0 1; 0 8 1; 8 8 1; 8 0 1", "0 0 1; 0 4 1; 2 6 1; 4 6 1; ", "4 6 1; 6 6 1; 8 4 1; 8 0 1; "},
		{"0 0 1; 0 8 2; 8 8 3; 8 0 4", "0 0 1; 0 4 3/2; 2 6 2; 4 6 5/2; ", "4 6 5/2; 6 6 3; 8 4 7/2; 8 0 4; "},
		{"0 0 8; 0 0 1; 0 0 1; 8 0 8", "0 0 8; 0 0 9/2; 0 0 11/4; 1 0 11/4; ", "1 0 11/4; 2 0 11/4; 4 0 9/2; 8 0 8; "},
		{"7 -3 1; 7 -3 1; 7 -3 1; 7 -3 1", "7 -3 1; 7 -3 1; 7 -3 1; 7 -3 1; ", "7 -3 1; 7 -3 1; 7 -3 1; 7 -3 1; "},
		{"7 -3 2; 7 -3 2; 7 -3 2", "7 -3 2; 7 -3 2; 7 -3 2; ", "7 -3 2; 7 -3 2; 7 -3 2; "},
		{"0 0 1; 0 0 1", "0 0 1; 0 0 1; ", "0 0 1; 0 0 1; "},
	} {
		a, b, e := halve.Cut(given(controls(x.l)))
		if text(a) != x.left || text(b) != x.right || e != api.OK {
			t.Error(i, text(a), text(b), e)
		}
	}
}

func TestCut(t *testing.T) {
	for _, c := range curves() {
		want := parts(c, 1)
		for n := range 14 {
			l := given(c)
			if n > 0 {
				l = shaped(l, n)
			}
			if a, b, e := halve.Cut(l); e != api.OK || !is(a, want[0]) || !is(b, want[1]) {
				t.Error(n, text(l), text(a), text(b), e)
			}
		}
	}
}

func TestCutOfThrown(t *testing.T) {
	d := dice(41)
	for n := range 600 {
		c := d.thrownCurve(2 + n%3)
		check(t, c, shaped(given(c), n), n%4)
	}
}

// Numbers that are not there count as nought, a weight without a Q as its P.
func TestCutOfNothing(t *testing.T) {
	w := api.Rat{P: api.Int{N: []uint64{4}}}
	a, b, e := halve.Cut([]api.Hom{{W: w}, {X: w, W: w}, {Y: api.Rat{P: api.Int{Neg: true}}, W: w}})
	if !is(a, controls("0 0 4; 2 0 4; 2 0 4")) || !is(b, controls("2 0 4; 2 0 4; 0 0 4")) || e != api.OK {
		t.Error(text(a), text(b), e)
	}
}

// The two halves have as many control points as the whole, and meet.
func TestHalvesMeet(t *testing.T) {
	for _, c := range curves() {
		for n := range 5 {
			l := shaped(given(c), n)
			a, b, e := halve.Cut(l)
			if len(a) != len(l) || len(b) != len(l) || e != api.OK {
				t.Fatal(text(l), text(a), text(b), e)
			}
			if text(a[len(l)-1:]) != text(b[:1]) || text(a[:1]) != text(l[:1]) || text(b[len(l)-1:]) != text(l[len(l)-1:]) {
				t.Error(text(l), text(a), text(b))
			}
		}
	}
}

// All control points the same: so are those of both halves.
func TestCutOfOnePlace(t *testing.T) {
	for _, s := range []string{"0 0 1", "3 -2 1", "1/3 1e60 1/7", "22/7 -1e-60 18446744073709551617/3"} {
		var l []control
		for len(l) < 5 {
			l = append(l, controls(s)...)
			if len(l) < 2 || len(l) > 4 {
				continue
			}
			a, b, e := halve.Cut(given(l))
			if !is(a, l) || !is(b, l) || e != api.OK {
				t.Error(s, text(a), text(b), e)
			}
		}
	}
}

// From the other end, the halves are the same ones from their other ends.
func TestCutBack(t *testing.T) {
	back := func(l []control) []control {
		var all []control
		for i := range l {
			all = append(all, l[len(l)-1-i])
		}
		return all
	}
	for _, c := range curves() {
		want := parts(c, 1)
		a, b, e := halve.Cut(given(back(c)))
		if !is(a, back(want[1])) || !is(b, back(want[0])) || e != api.OK {
			t.Error(text(given(c)), text(a), text(b), e)
		}
	}
}

func TestCutOfNoCurve(t *testing.T) {
	for i, l := range badLists() {
		if a, b, e := halve.Cut(l); len(a)+len(b) != 0 || e != api.ErrForm {
			t.Error(i, len(l), text(a), text(b), e)
		}
	}
}

// Beside each weight that is not above 0 stands one that is: just that one is
// refused, whatever the points are.
func TestCutOfLeastWeights(t *testing.T) {
	for n := 2; n < 5; n++ {
		for k := range n {
			for _, w := range numbers("1 1/64 1e-60 1e60 18446744073709551616") {
				var c []control
				for i := range n {
					c = append(c, control{big.NewRat(int64(i), 1), big.NewRat(int64(-i*i), 3), big.NewRat(1, 1)})
				}
				c[k][2] = w
				check(t, c, given(c), 2)
				c[k][2] = new(big.Rat).Neg(w)
				if a, b, e := halve.Cut(given(c)); len(a)+len(b) != 0 || e != api.ErrForm {
					t.Error(n, k, w, text(a), text(b), e)
				}
			}
		}
	}
}

// Numbers of some thousand digits.
func TestCutOfLongNumbers(t *testing.T) {
	long := func(k uint) *big.Rat {
		one := big.NewInt(1)
		upper := new(big.Int).Sub(new(big.Int).Lsh(one, 9000+k), one)
		lower := new(big.Int).Add(new(big.Int).Lsh(one, 8000-k), one)
		return new(big.Rat).SetFrac(upper, lower)
	}
	for n := 2; n < 5; n++ {
		var c []control
		for i := range uint(n) {
			c = append(c, control{long(7 * i), new(big.Rat).Neg(long(11*i + 1)), long(13*i + 2)})
		}
		check(t, c, given(c), 2)
		l := given(c)
		for i := range l {
			l[i].X, l[i].W = rat.Neg(l[i].X), rat.Neg(l[i].W)
		}
		if a, b, e := halve.Cut(l); len(a)+len(b) != 0 || e != api.ErrForm {
			t.Error(n, e)
		}
	}
}
