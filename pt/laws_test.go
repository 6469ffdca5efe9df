package pt_test

import (
	"math/big"
	"testing"

	"gesso/pt"
	"gesso/rat"
)

// P6.3.

func TestOrientByTurnsAndSwapped(t *testing.T) {
	l := points()
	for i, u := range l {
		for j, v := range l {
			for k, w := range l {
				a, b, c := given(u), given(v), given(w)
				n := pt.Orient(a, b, c)
				if pt.Orient(b, c, a) != n || pt.Orient(c, a, b) != n {
					t.Error("by turns", u, v, w)
				}
				if pt.Orient(b, a, c) != -n || pt.Orient(a, c, b) != -n || pt.Orient(c, b, a) != -n {
					t.Error("swapped", u, v, w)
				}
				if (i == j || j == k || i == k) && n != 0 {
					t.Error("two the same", u, v, w)
				}
			}
		}
	}
}

// What a Mix from 0 to 1 is, is on the segment, and what it is beyond is not,
// but where the segment is one point.
func TestToSegOfMix(t *testing.T) {
	one := big.NewRat(1, 1)
	for i, v := range points() {
		for j, w := range points() {
			a, b := given(v), given(w)
			for _, k := range shares() {
				on := i == j || k.Sign() >= 0 && k.Cmp(one) <= 0
				p := pt.Mix(a, b, fraction(k))
				if s := pt.ToSeg(p, a, b); (rat.Sign(s) == 0) != on || rat.Sign(s) < 0 {
					t.Error(v, w, k, s)
				}
				if pt.Orient(a, b, p) != 0 {
					t.Error("not of one line", v, w, k)
				}
			}
		}
	}
}

// What is a little beside a Mix is not on the segment.
func TestToSegBesideMix(t *testing.T) {
	little := fraction(number("1e-90"))
	for i, v := range points() {
		for j, w := range points() {
			a, b := given(v), given(w)
			aside := pt.Sub(b, a)
			aside.X, aside.Y = rat.Neg(aside.Y), aside.X
			for _, k := range shares() {
				p := pt.Add(pt.Mix(a, b, fraction(k)), pt.Scale(aside, little))
				if i != j && (rat.Sign(pt.ToSeg(p, a, b)) != 1 || pt.Orient(a, b, p) != 1) {
					t.Error(v, w, k)
				}
			}
		}
	}
}

// The segment has no direction, and is not nearer than a point that it has.
func TestToSegOfSegmentSwapped(t *testing.T) {
	l := points()
	for _, u := range l {
		for _, v := range l {
			for _, w := range l {
				p, a, b := given(u), given(v), given(w)
				s := pt.ToSeg(p, a, b)
				if rat.Cmp(s, pt.ToSeg(p, b, a)) != 0 {
					t.Error("swapped", u, v, w)
				}
				if rat.Cmp(s, pt.Far(p, a)) > 0 || rat.Cmp(s, pt.Far(p, b)) > 0 || rat.Cmp(s, pt.Far(p, pt.Mix(a, b, rat.Of(1, 3)))) > 0 {
					t.Error("not the nearest", u, v, w)
				}
			}
		}
	}
}
