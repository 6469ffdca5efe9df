package halve_test

import (
	"math/big"
	"testing"

	"gesso/api"
	"gesso/curve"
	"gesso/halve"
	"gesso/pt"
	"gesso/rat"
)

// P14.2, and what else follows from P14.1.

// shares are numbers from 0 to 1.
func shares() []*big.Rat {
	return numbers("0 1 1/2 1/3 2/3 1/4 3/4 1/64 63/64 22/71 1e-40 1/18446744073709551616 18446744073709551615/18446744073709551616 31415926535897932384626433832795028841971693993751/100000000000000000000000000000000000000000000000000")
}

// checkAt holds part at t against the whole at that place.
func checkAt(t *testing.T, whole, part []api.Hom, v, place api.Rat) {
	t.Helper()
	p, e := curve.At(part, v)
	q, f := curve.At(whole, place)
	if e != api.OK || f != api.OK || !pt.Same(p, q) {
		t.Error(text(whole), text(part), rat.Text(v), e, f)
	}
}

func checkHalves(t *testing.T, l []api.Hom) {
	t.Helper()
	a, b, e := halve.Cut(l)
	if e != api.OK {
		t.Error(text(l), e)
	}
	for _, s := range shares() {
		v := fraction(s)
		checkAt(t, l, a, v, rat.Mul(v, rat.Of(1, 2)))
		checkAt(t, l, b, v, rat.Mul(rat.Add(rat.Of(1, 1), v), rat.Of(1, 2)))
	}
}

func TestHalvesAreTheWhole(t *testing.T) {
	for i, c := range curves() {
		checkHalves(t, given(c))
		checkHalves(t, shaped(given(c), i))
	}
	d := dice(17)
	for n := range 60 {
		checkHalves(t, given(d.thrownCurve(2+n%3)))
	}
}

// At their ends they are the whole's ends, and its middle.
func TestHalvesAtTheirEnds(t *testing.T) {
	for i, c := range curves() {
		l := given(c)
		a, b, e := halve.Cut(l)
		if e != api.OK {
			t.Error(i, e)
		}
		first, _ := curve.Point(l[0])
		last, _ := curve.Point(l[len(l)-1])
		middle, _ := curve.At(l, rat.Of(1, 2))
		for k, x := range []struct {
			half []api.Hom
			v    int64
			want api.Pt
		}{{a, 0, first}, {a, 1, middle}, {b, 0, middle}, {b, 1, last}} {
			if p, e := curve.At(x.half, rat.Of(x.v, 1)); e != api.OK || !pt.Same(p, x.want) {
				t.Error(i, k, e)
			}
		}
	}
}

// A part of many is the whole at where it begins and so many halves further.
func TestPartsAreTheWhole(t *testing.T) {
	for _, c := range curves() {
		for deep := range 4 {
			m, e := halve.Many(given(c), deep)
			if len(m) != 1<<deep || e != api.OK {
				t.Fatal(deep, len(m), e)
			}
			for i, part := range m {
				for _, s := range shares()[:6] {
					v := fraction(s)
					checkAt(t, given(c), part, v, rat.Mul(rat.Add(rat.Of(int64(i), 1), v), rat.Of(1, 1<<deep)))
				}
			}
		}
	}
}

// All parts are curves, a circle's are on it.
func TestPartsAreCurves(t *testing.T) {
	circle := given(controls("1 0 1; 1 1 1; 0 2 2"))
	m, e := halve.Many(circle, 6)
	if len(m) != 64 || e != api.OK {
		t.Fatal(len(m), e)
	}
	for i, part := range m {
		for _, s := range shares() {
			if p, e := curve.At(part, fraction(s)); e != api.OK || rat.Text(pt.Dot(p, p)) != "1" {
				t.Error(i, s, e)
			}
		}
	}
	for _, c := range curves() {
		m, _ := halve.Many(given(c), 3)
		for i, part := range m {
			if !curve.Good(part) {
				t.Error(i, text(part))
			}
		}
	}
}
