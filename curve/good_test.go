package curve_test

import (
	"testing"

	"gesso/api"
	"gesso/curve"
	"gesso/rat"
)

// P13.1: Good. Whatever is not good has no point, by P13.2.

// plain are so many control points of weight 1.
func plain(n int) []api.Hom {
	var l []api.Hom
	for i := range n {
		l = append(l, api.Hom{X: rat.Of(int64(i), 1), Y: rat.Of(int64(i*i), 3), W: rat.Of(1, 1)})
	}
	return l
}

// checkGood holds Good, and what At tells beside it for what is no share too.
func checkGood(t *testing.T, l []api.Hom, good bool) {
	t.Helper()
	if curve.Good(l) != good {
		t.Error(text(l), "is not", good)
	}
	for _, v := range append(shares(), noShares()...) {
		p, e := curve.At(l, fraction(v))
		if (e == api.ErrForm) == good || e != api.OK && !none(p) {
			t.Error(text(l), v, textPoint(p), e)
		}
	}
}

func TestGoodOfCounts(t *testing.T) {
	for _, n := range []int{0, 1, 2, 3, 4, 5, 6, 7, 8, 9, 16, 255, 256, 258, 259, 260} {
		checkGood(t, plain(n), 2 <= n && n <= 4)
	}
	checkGood(t, []api.Hom{}, false)
	if n := 1 << 16; curve.Good(plain(n)) || curve.Good(plain(n+3)) {
		t.Error("as many as few in 16 bits")
	}
}

// Each place in turn has a weight that is not above 0.
func TestGoodOfWeights(t *testing.T) {
	for n := range 6 {
		for k := range n {
			for _, w := range numbers("0 -1 -1/64 -1e-60 -1e60 -18446744073709551616 1 64 1/64 1e-60 1e60 18446744073709551616") {
				for _, f := range forms(fraction(w)) {
					l := plain(n)
					l[k].W = f
					checkGood(t, l, 2 <= n && n <= 4 && w.Sign() > 0)
				}
			}
			for _, f := range []api.Rat{{}, {Q: []uint64{5}}, {P: api.Int{Neg: true}}, {P: api.Int{Neg: true, N: []uint64{0}}, Q: []uint64{0}}, {P: api.Int{N: []uint64{0, 0}}, Q: []uint64{7}}} {
				l := plain(n)
				l[k].W = f
				checkGood(t, l, false)
			}
			l := plain(n)
			l[k].W = api.Rat{P: api.Int{N: []uint64{3}}}
			checkGood(t, l, 2 <= n && n <= 4)
		}
	}
}

// All weights below 0 are as bad as one, though all points are the same as
// with those above 0.
func TestGoodOfAllBelow(t *testing.T) {
	for n := range 6 {
		l := plain(n)
		for i, h := range l {
			l[i] = api.Hom{X: rat.Neg(h.X), Y: rat.Neg(h.Y), W: rat.Neg(h.W)}
		}
		checkGood(t, l, false)
	}
}

// Only weights have to be above 0, and no number has to be in lowest terms.
func TestGoodOfCurves(t *testing.T) {
	for _, c := range curves() {
		for n := range 20 {
			checkGood(t, shapedList(given(c), n), true)
		}
	}
	for _, l := range [][]api.Hom{
		{{W: rat.Of(1, 1)}, {W: rat.Of(1, 1)}},
		{{X: rat.Of(-1, 1), Y: rat.Of(-1, 1), W: rat.Of(1, 1)}, {X: rat.Of(-5, 1), W: rat.Of(1, 9)}},
		{{W: rat.Of(1, 1)}, {W: rat.Of(2, 1)}, {W: rat.Of(3, 1)}, {W: rat.Of(4, 1)}},
	} {
		checkGood(t, l, true)
	}
}
