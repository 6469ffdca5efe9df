package pt_test

import (
	"math/big"
	"testing"

	"gesso/api"
	"gesso/pt"
	"gesso/rat"
)

// P6.1: Good, Same, Add, Sub, Scale, Mix.

func text(p api.Pt) string { return rat.Text(p.X) + " " + rat.Text(p.Y) }

func TestPointsOfFew(t *testing.T) {
	a, b := whole(3, 4), whole(-1, 2)
	for i, x := range []struct {
		p api.Pt
		s string
	}{
		{pt.Add(a, b), "2 6"},
		{pt.Sub(a, b), "4 2"},
		{pt.Sub(b, a), "-4 -2"},
		{pt.Sub(a, a), "0 0"},
		{pt.Add(a, api.Pt{}), "3 4"},
		{pt.Add(api.Pt{}, api.Pt{}), "0 0"},
		{pt.Scale(a, rat.Of(-1, 2)), "-3/2 -2"},
		{pt.Scale(a, rat.Of(0, 1)), "0 0"},
		{pt.Scale(a, api.Rat{}), "0 0"},
		{pt.Scale(api.Pt{}, rat.Of(7, 2)), "0 0"},
		{pt.Mix(a, b, rat.Of(0, 1)), "3 4"},
		{pt.Mix(a, b, api.Rat{}), "3 4"},
		{pt.Mix(a, b, rat.Of(1, 1)), "-1 2"},
		{pt.Mix(a, b, rat.Of(1, 4)), "2 7/2"},
		{pt.Mix(a, b, rat.Of(2, 1)), "-5 0"},
		{pt.Mix(a, b, rat.Of(-1, 2)), "5 5"},
		{pt.Mix(a, a, rat.Of(-5, 3)), "3 4"},
		{pt.Mix(whole(0, 0), whole(10, -10), rat.Of(3, 10)), "3 -3"},
	} {
		if !pt.Good(x.p) || text(x.p) != x.s {
			t.Error(i, text(x.p))
		}
	}
}

func TestGood(t *testing.T) {
	for _, v := range points() {
		for i, p := range shapes(given(v)) {
			if pt.Good(p) != (rat.Good(p.X) && rat.Good(p.Y)) || i == 0 && !pt.Good(p) {
				t.Error(v, i)
			}
		}
	}
	half, odd := rat.Of(1, 2), api.Rat{P: api.Int{N: []uint64{2}}, Q: []uint64{4}}
	for i, x := range []struct {
		x, y api.Rat
		good bool
	}{
		{half, half, true},
		{rat.Of(0, 1), rat.Of(0, 1), true},
		{odd, half, false},
		{half, odd, false},
		{odd, odd, false},
		{api.Rat{}, half, false},
		{half, api.Rat{}, false},
		{api.Rat{}, api.Rat{}, false},
		{half, api.Rat{P: api.Int{Neg: true}, Q: []uint64{1}}, false},
		{api.Rat{P: api.Int{N: []uint64{1, 0}}, Q: []uint64{2}}, half, false},
		{half, api.Rat{P: api.Int{N: []uint64{1}}, Q: []uint64{2, 0}}, false},
		{half, api.Rat{P: api.Int{N: []uint64{1}}, Q: []uint64{0}}, false},
	} {
		if pt.Good(api.Pt{X: x.x, Y: x.y}) != x.good {
			t.Error(i)
		}
	}
}

func TestSame(t *testing.T) {
	for i, v := range points() {
		for j, w := range points() {
			for _, p := range shapes(given(v)) {
				if pt.Same(p, given(w)) != (i == j) || pt.Same(given(w), p) != (i == j) {
					t.Error(v, w, p)
				}
			}
		}
		for _, p := range shapes(given(v)) {
			for _, q := range shapes(given(v)) {
				if !pt.Same(p, q) {
					t.Error(p, q)
				}
			}
		}
	}
}

// One part alone is not enough.
func TestSameOfOnePart(t *testing.T) {
	for i, x := range []struct {
		p, q api.Pt
		same bool
	}{
		{whole(1, 2), whole(1, 2), true},
		{whole(1, 2), whole(1, 3), false},
		{whole(1, 2), whole(3, 2), false},
		{whole(1, 2), whole(2, 1), false},
		{whole(1, 2), whole(-1, 2), false},
		{whole(1, 2), whole(1, -2), false},
		{whole(0, 0), api.Pt{}, true},
		{whole(0, 1), api.Pt{}, false},
		{whole(1, 0), api.Pt{}, false},
	} {
		if pt.Same(x.p, x.q) != x.same {
			t.Error(i)
		}
	}
}

func TestAddSub(t *testing.T) {
	for _, v := range points() {
		for _, w := range points() {
			for i, p := range shapes(given(v)) {
				l := shapes(given(w))
				q := l[i%len(l)]
				if s := pt.Add(p, q); !isPoint(s, point{sum(v.x, w.x), sum(v.y, w.y)}) {
					t.Error("add", p, q, s)
				}
				if s := pt.Sub(p, q); !isPoint(s, from(w, v)) {
					t.Error("sub", p, q, s)
				}
			}
		}
	}
}

func TestScale(t *testing.T) {
	for _, v := range points() {
		for _, k := range shares() {
			want := point{times(v.x, k), times(v.y, k)}
			for i, p := range shapes(given(v)) {
				l := forms(fraction(k))
				if s := pt.Scale(p, l[i%len(l)]); !isPoint(s, want) {
					t.Error(p, k, s)
				}
			}
		}
	}
}

func TestMix(t *testing.T) {
	for _, v := range points() {
		for _, w := range points() {
			for n, k := range shares() {
				want := mixed(v, w, k)
				l, m, o := shapes(given(v)), shapes(given(w)), forms(fraction(k))
				for i := range 4 {
					p, q, r := l[(i+n)%len(l)], m[(2*i+n)%len(m)], o[(3*i+n)%len(o)]
					if s := pt.Mix(p, q, r); !isPoint(s, want) {
						t.Error(p, q, r, s)
					}
				}
			}
		}
	}
}

// At 0 and at 1 it is an end, and from there the other way round it is the
// same point.
func TestMixOfEndsAndBack(t *testing.T) {
	for _, v := range points() {
		for _, w := range points() {
			p, q := given(v), given(w)
			if !pt.Same(pt.Mix(p, q, rat.Of(0, 1)), p) || !pt.Same(pt.Mix(p, q, rat.Of(1, 1)), q) {
				t.Error(v, w)
			}
			for _, k := range shares() {
				back := fraction(less(big.NewRat(1, 1), k))
				if !pt.Same(pt.Mix(p, q, fraction(k)), pt.Mix(q, p, back)) {
					t.Error(v, w, k)
				}
			}
		}
	}
}
