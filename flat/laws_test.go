package flat_test

import (
	"math/big"
	"slices"
	"testing"

	"gesso/api"
	"gesso/curve"
	"gesso/flat"
	"gesso/pt"
	"gesso/rat"
)

// P15.2, and what else follows from P15.1.

// shares are numbers from 0 to 1.
func shares() []*big.Rat {
	return numbers("0 1 1/2 1/3 2/3 1/4 3/4 1/64 63/64 22/71 1e-40 1/18446744073709551616 18446744073709551615/18446744073709551616")
}

// checkNear holds all points of l against tol, by which it is flat.
func checkNear(t *testing.T, l []api.Hom, tol *big.Rat) {
	t.Helper()
	from, e := curve.Point(l[0])
	to, f := curve.Point(l[len(l)-1])
	if e != api.OK || f != api.OK {
		t.Fatal(text(l), e, f)
	}
	square := fraction(new(big.Rat).Mul(tol, tol))
	for _, v := range shares() {
		p, e := curve.At(l, fraction(v))
		if e != api.OK || rat.Cmp(pt.ToSeg(p, from, to), square) > 0 {
			t.Error(text(l), tol, v, e)
		}
	}
}

func TestFlatCurvesAreNear(t *testing.T) {
	for i, c := range curves() {
		l := shaped(given(c), i)
		if i%2 == 0 {
			l = given(c)
		}
		near, _ := roots(gapOf(c))
		flats := 0
		for _, tol := range append(tolerances(gapOf(c)), new(big.Rat).Quo(near, big.NewRat(2, 1))) {
			if flat.Is(l, fraction(tol)) {
				flats++
				checkNear(t, l, tol)
			}
		}
		if flats < 5 {
			t.Error(text(l), "is flat by too few", flats)
		}
	}
}

func TestFlatThrownCurvesAreNear(t *testing.T) {
	d := dice(19)
	flats := 0
	for n := range 120 {
		l := given(d.thrownCurve(2 + n%3))
		for _, tol := range numbers("-1 0 1/64 1 5 10 20 40 80 160 320 5000") {
			if flat.Is(l, fraction(tol)) {
				flats++
				checkNear(t, l, tol)
			}
		}
	}
	if flats < 120 {
		t.Error("few are flat", flats)
	}
}

// A tolerance by which a point of the curve itself is too far is none by which
// it is flat.
func TestFarCurvesAreNotFlat(t *testing.T) {
	for _, x := range []struct{ l, tol string }{
		{"0 0 1; 1 2 1; 2 0 1", "999/1000"},
		{"0 0 1; 1 -2 1; 2 0 1", "999/1000"},
		{"0 0 1; 0 4 1; 4 4 1; 4 0 1", "2999/1000"},
		{"0 0 1; 5 0 1; 2 0 1", "999/1000"},
		{"0 0 1; 4 0 1; 0 0 1", "1999/1000"},
		{"0 0 1; 0 4096 4096; 2 0 2", "999/1000"},
	} {
		l, tol := given(controls(x.l)), fraction(number(x.tol))
		p, e := curve.At(l, rat.Of(1, 2))
		from, _ := curve.Point(l[0])
		to, _ := curve.Point(l[len(l)-1])
		if e != api.OK || rat.Cmp(pt.ToSeg(p, from, to), rat.Mul(tol, tol)) <= 0 {
			t.Error("the test itself", x.l)
		}
		if flat.Is(l, tol) {
			t.Error(x.l, x.tol)
		}
	}
}

// From the other end it is the same gap.
func TestGapFromTheOtherEnd(t *testing.T) {
	for _, c := range curves() {
		l := given(c)
		slices.Reverse(l)
		check(t, c, l)
	}
}

// Where a control point is, its weight aside, is what counts.
func TestGapWhateverTheWeights(t *testing.T) {
	for i, c := range curves() {
		l := given(c)
		for k, w := range numbers("7 1/64 22/7 1e-40") {
			h, v := l[(k+i)%len(l)], fraction(w)
			l[(k+i)%len(l)] = api.Hom{X: rat.Mul(h.X, v), Y: rat.Mul(h.Y, v), W: rat.Mul(h.W, v)}
			check(t, c, l)
		}
	}
}

// So many times as great, it is the square of that as far; turned by a quarter
// and moved, it is the same.
func TestGapOfMapped(t *testing.T) {
	for _, c := range curves() {
		l, turned := given(c), given(c)
		for i, h := range l {
			l[i].X, l[i].Y = rat.Mul(h.X, rat.Of(-3, 2)), rat.Mul(h.Y, rat.Of(-3, 2))
			turned[i].X, turned[i].Y = rat.Sub(h.W, h.Y), rat.Add(h.X, rat.Mul(h.W, rat.Of(22, 7)))
		}
		want := gapOf(c)
		if gap, e := flat.Gap(turned); e != api.OK || !is(gap, want) {
			t.Error(text(turned), rat.Text(gap), e)
		}
		if gap, e := flat.Gap(l); e != api.OK || !is(gap, want.Mul(want, big.NewRat(9, 4))) {
			t.Error(text(l), rat.Text(gap), e)
		}
	}
}

// Once it is flat, it is so by all that is greater.
func TestFlatByMore(t *testing.T) {
	for _, c := range curves() {
		l, was := given(c), false
		all := tolerances(gapOf(c))
		slices.SortFunc(all, (*big.Rat).Cmp)
		for _, tol := range all {
			is := flat.Is(l, fraction(tol))
			if was && !is {
				t.Error(text(l), tol)
			}
			was = is
		}
		if !was {
			t.Error(text(l), "is never flat")
		}
	}
}
