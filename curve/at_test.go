package curve_test

import (
	"math/big"
	"testing"

	"gesso/api"
	"gesso/curve"
	"gesso/rat"
)

// P13.2: At. P13.1: Point.

func TestAtOfFew(t *testing.T) {
	for i, x := range []struct{ l, t, want string }{
		{"0 0 1; 1 2 1; 2 0 1", "1/2", "1 1"},
		{"0 0 1; 1 2 1; 2 0 1", "1/4", "1/2 3/4"},
		{"0 0 1; 1 2 1; 2 0 1", "0", "0 0"},
		{"0 0 1; 1 2 1; 2 0 1", "1", "2 0"},
		{"0 0 1; 1 2 1", "1/2", "1/2 1"},
		{"0 0 1; 1 2 1", "2/3", "2/3 4/3"},
		{"0 0 1; 9 3 3", "1/2", "9/4 3/4"},
		{"0 0 1; 9 3 3", "1", "3 1"},
		{"2 4 2; 9 3 3", "0", "1 2"},
		{"1 0 1; 1 1 1; 0 2 2", "1/2", "3/5 4/5"},
		{"1 0 1; 1 1 1; 0 2 2", "1/3", "4/5 3/5"},
		{"1 0 1; 1 1 1; 0 2 2", "1", "0 1"},
		{"0 0 1; 1 2 1; 2 0 1; 4 4 1", "1/2", "13/8 5/4"},
		{"0 0 1; 3 0 1; 0 3 1; 0 0 1", "1/3", "4/3 2/3"},
		{"0 0 1; 2 0 1; 4 0 1; 6 0 1", "1/5", "6/5 0"},
		{"3 -2 1; 6 -4 2; 1 -2/3 1/3", "5/7", "3 -2"},
		{"7 7 1; 7 7 1; 7 7 1; 7 7 1", "1/9", "7 7"},
	} {
		p, e := curve.At(given(controls(x.l)), fraction(number(x.t)))
		if textPoint(p) != x.want || e != api.OK {
			t.Error(i, textPoint(p), e)
		}
	}
}

func TestAt(t *testing.T) {
	for i, c := range curves() {
		l := given(c)
		for j, v := range shares() {
			x, y := at(c, v)
			if p, e := curve.At(l, fraction(v)); e != api.OK || !isPoint(p, x, y) {
				t.Error(i, j, textPoint(p), e)
			}
			for n := range 12 {
				p, e := curve.At(shapedList(l, n+j), formed(fraction(v), n))
				if e != api.OK || !isPoint(p, x, y) {
					t.Error(i, j, n, textPoint(p), e)
				}
			}
		}
	}
}

// Thrown control points, two to four, with thrown weights above 0.
func TestAtOfThrown(t *testing.T) {
	d := dice(29)
	throw := func(low, high int64) *big.Rat {
		return big.NewRat(low+int64(d.next()>>1%uint64(high-low+1)), 1+int64(d.next()%20))
	}
	for n := range 600 {
		var c []control
		for range 2 + n%3 {
			c = append(c, control{throw(-90, 90), throw(-90, 90), throw(1, 30)})
		}
		v := big.NewRat(int64(d.next()%41), 40)
		x, y := at(c, v)
		if p, e := curve.At(given(c), fraction(v)); e != api.OK || !isPoint(p, x, y) {
			t.Error(c, v, textPoint(p), e)
		}
	}
}

func TestAtOfNoShare(t *testing.T) {
	for i, c := range curves() {
		for _, v := range noShares() {
			for _, f := range forms(fraction(v)) {
				if p, e := curve.At(given(c), f); e != api.ErrArg || !none(p) {
					t.Error(i, v, textPoint(p), e)
				}
			}
		}
	}
}

// In any form 0 and 1 are shares.
func TestAtOfEndsInAnyForm(t *testing.T) {
	l := given(controls("1 2 1; 5 5 1; 8 -6 2"))
	for _, f := range append(forms(rat.Of(0, 1)), api.Rat{}, api.Rat{P: api.Int{Neg: true}}) {
		if p, e := curve.At(l, f); e != api.OK || textPoint(p) != "1 2" {
			t.Error(f, textPoint(p), e)
		}
	}
	for _, f := range append(forms(rat.Of(1, 1)), api.Rat{P: api.Int{N: []uint64{1}}}) {
		if p, e := curve.At(l, f); e != api.OK || textPoint(p) != "4 -3" {
			t.Error(f, textPoint(p), e)
		}
	}
}

// That there is no curve goes ahead of that there is no share.
func TestAtOfNeither(t *testing.T) {
	bad := plain(3)
	bad[1].W = rat.Of(0, 1)
	for i, l := range [][]api.Hom{nil, {}, plain(1), plain(5), bad} {
		for _, v := range noShares() {
			if p, e := curve.At(l, fraction(v)); e != api.ErrForm || !none(p) {
				t.Error(i, v, textPoint(p), e)
			}
		}
	}
}

func TestPointOfFew(t *testing.T) {
	for i, x := range []struct{ h, want string }{
		{"3 4 1", "3 4"},
		{"3 4 2", "3/2 2"},
		{"3 4 -2", "-3/2 -2"},
		{"3 -4 -1", "-3 4"},
		{"3 4 1/64", "192 256"},
		{"1/2 -1/3 -1/6", "-3 2"},
		{"0 0 5", "0 0"},
		{"0 7 -7", "0 -1"},
		{"1e40 -1e-40 1e20", "100000000000000000000 -1/1000000000000000000000000000000000000000000000000000000000000"},
	} {
		if p, e := curve.Point(controls(x.h)[0].given()); textPoint(p) != x.want || e != api.OK {
			t.Error(i, textPoint(p), e)
		}
	}
}

func TestPoint(t *testing.T) {
	all := numbers("0 1 -1 2 -7/3 1/64 -63/64 1e40 -1e-40 18446744073709551616 -340282366920938463463374607431768211457/18446744073709551615")
	for i, x := range all {
		for j, y := range all {
			for k, w := range all {
				l := given([]control{{x, y, w}})
				for n := range 3 {
					p, e := curve.Point(shapedList(l, n*(i+j+k))[0])
					if w.Sign() == 0 {
						if e != api.ErrZero || !none(p) {
							t.Error(x, y, w, textPoint(p), e)
						}
						continue
					}
					if e != api.OK || !isPoint(p, new(big.Rat).Quo(x, w), new(big.Rat).Quo(y, w)) {
						t.Error(x, y, w, textPoint(p), e)
					}
				}
			}
		}
	}
}

func TestPointOfNoWeight(t *testing.T) {
	noughts := append(forms(rat.Of(0, 1)), api.Rat{}, api.Rat{Q: []uint64{9}}, api.Rat{P: api.Int{Neg: true, N: []uint64{0, 0}}, Q: []uint64{0}})
	for _, w := range noughts {
		for _, x := range append(noughts, rat.Of(3, 1), rat.Of(-1, 2)) {
			if p, e := curve.Point(api.Hom{X: x, Y: rat.Of(4, 1), W: w}); e != api.ErrZero || !none(p) {
				t.Error(x, w, textPoint(p), e)
			}
		}
	}
	if p, e := curve.Point(api.Hom{}); e != api.ErrZero || !none(p) {
		t.Error(textPoint(p), e)
	}
	// a weight without a Q is one
	if p, e := curve.Point(api.Hom{X: rat.Of(6, 1), W: api.Rat{P: api.Int{N: []uint64{4}}}}); e != api.OK || textPoint(p) != "3/2 0" {
		t.Error(textPoint(p), e)
	}
}
