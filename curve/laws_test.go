package curve_test

import (
	"math/big"
	"slices"
	"testing"

	"gesso/api"
	"gesso/curve"
	"gesso/mat"
	"gesso/pt"
	"gesso/rat"
)

// P13.3, and what else follows from P13.1 and P13.2.

func TestAtEndsIsTheEnds(t *testing.T) {
	for i, c := range curves() {
		for n := range 12 {
			l := shapedList(given(c), n)
			first, e := curve.Point(l[0])
			if p, f := curve.At(l, rat.Of(0, 1)); e != api.OK || f != api.OK || !pt.Same(p, first) {
				t.Error(i, n, textPoint(p), e, f)
			}
			last, e := curve.Point(l[len(l)-1])
			if p, f := curve.At(l, rat.Of(1, 1)); e != api.OK || f != api.OK || !pt.Same(p, last) {
				t.Error(i, n, textPoint(p), e, f)
			}
		}
	}
}

// What Of tells begins where the part does and ends at its last point.
func TestOfEndsIsTheEnds(t *testing.T) {
	for i, from := range places() {
		for _, m := range maps() {
			for _, kind := range curveKinds {
				s := api.Seg{Kind: kind, V: [6]int64{1, -70, 640, 65, -3, 64}, W: 1 + int64(i)*40}
				k := map[int]int{api.Line: 0, api.Quad: 2, api.Conic: 2, api.Cubic: 4}[kind]
				begin, end, by := point(from[0], from[1]), api.Pt{X: rat.Of(s.V[k], 64), Y: rat.Of(s.V[k+1], 64)}, givenMap(m)
				l, e := curve.Of(begin, s, by)
				first, f := curve.At(l, rat.Of(0, 1))
				last, g := curve.At(l, rat.Of(1, 1))
				if e != api.OK || f != api.OK || g != api.OK || !pt.Same(first, mat.Apply(by, begin)) || !pt.Same(last, mat.Apply(by, end)) {
					t.Error(i, s, m, textPoint(first), textPoint(last), e, f, g)
				}
			}
		}
	}
}

// A map of the curve is the curve of the mapped points, as Of tells them.
func TestMapOfCurveIsCurveOfMapped(t *testing.T) {
	for i, from := range places() {
		for j, m := range maps() {
			for _, kind := range curveKinds {
				s := api.Seg{Kind: kind, V: [6]int64{130, -70, 640, 65, -3, 64}, W: weights[(i+j)%len(weights)]}
				begin, by := point(from[0], from[1]), givenMap(m)
				straight, e := curve.Of(begin, s, mat.One())
				mapped, f := curve.Of(begin, s, by)
				if e != api.OK || f != api.OK {
					t.Error(i, j, s, e, f)
				}
				for _, v := range shares() {
					p, e := curve.At(straight, fraction(v))
					q, f := curve.At(mapped, fraction(v))
					if e != api.OK || f != api.OK || !pt.Same(mat.Apply(by, p), q) {
						t.Error(i, j, s, v, textPoint(p), textPoint(q))
					}
				}
			}
		}
	}
}

// The same of any control points, whatever their weights are.
func TestMapOfAnyCurve(t *testing.T) {
	for i, c := range curves() {
		for j, m := range maps() {
			var mapped []control
			for _, h := range c {
				x, y := new(big.Rat).Quo(h.x, h.w), new(big.Rat).Quo(h.y, h.w)
				mapped = append(mapped, moved(m, x, y, h.w))
			}
			for _, v := range shares() {
				p, e := curve.At(given(c), fraction(v))
				q, f := curve.At(given(mapped), fraction(v))
				if e != api.OK || f != api.OK || !pt.Same(mat.Apply(givenMap(m), p), q) {
					t.Error(i, j, v, textPoint(p), textPoint(q))
				}
			}
		}
	}
}

// From the other end, by what t lacks to 1, it is the same point; and all
// weights may be so many times as great.
func TestCurveBackAndByAnotherWeight(t *testing.T) {
	for i, c := range curves() {
		l := given(c)
		back := slices.Clone(l)
		slices.Reverse(back)
		k := fraction(number("22/7"))
		var heavy []api.Hom
		for _, h := range l {
			heavy = append(heavy, api.Hom{X: rat.Mul(h.X, k), Y: rat.Mul(h.Y, k), W: rat.Mul(h.W, k)})
		}
		for _, v := range shares() {
			s := fraction(v)
			p, e := curve.At(l, s)
			q, f := curve.At(back, rat.Sub(rat.Of(1, 1), s))
			r, g := curve.At(heavy, s)
			if e != api.OK || f != api.OK || g != api.OK || !pt.Same(p, q) || !pt.Same(p, r) {
				t.Error(i, v, textPoint(p), textPoint(q), textPoint(r))
			}
		}
	}
}

// A conic of weight 1 is the quad; a quarter of a circle is on the circle.
func TestConics(t *testing.T) {
	v := [6]int64{70, 128, -30, 5}
	for _, from := range places() {
		for _, m := range maps() {
			conic, e := curve.Of(point(from[0], from[1]), api.Seg{Kind: api.Conic, V: v, W: 64}, givenMap(m))
			quad, f := curve.Of(point(from[0], from[1]), api.Seg{Kind: api.Quad, V: v}, givenMap(m))
			if e != api.OK || f != api.OK || text(conic) != text(quad) {
				t.Error(text(conic), text(quad), e, f)
			}
		}
	}
	circle := given(controls("1 0 1; 1 1 1; 0 2 2"))
	for _, v := range shares() {
		if p, e := curve.At(circle, fraction(v)); e != api.OK || rat.Text(pt.Dot(p, p)) != "1" {
			t.Error(v, textPoint(p), e)
		}
	}
}

// All control points at one place: so is the curve.
func TestCurveOfOnePlace(t *testing.T) {
	for _, from := range places() {
		for n := 2; n <= 4; n++ {
			for i := range weights {
				var l []api.Hom
				for k := range n {
					w := big.NewRat(weights[(i+k)%len(weights)], 64)
					l = append(l, control{times(from[0], w), times(from[1], w), w}.given())
				}
				for _, v := range shares() {
					if p, e := curve.At(l, fraction(v)); e != api.OK || !isPoint(p, from[0], from[1]) {
						t.Error(from, n, v, textPoint(p), e)
					}
				}
			}
		}
	}
}
