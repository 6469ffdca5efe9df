package pt_test

import (
	"math/big"
	"testing"

	"gesso/api"
	"gesso/pt"
	"gesso/rat"
)

// P6.1: Dot, Cross. P6.2: Orient, Far, ToSeg.

func TestMeasuresOfFew(t *testing.T) {
	a, b := whole(3, 4), whole(-1, 2)
	for i, x := range []struct {
		a api.Rat
		s string
	}{
		{pt.Dot(a, b), "5"},
		{pt.Dot(a, a), "25"},
		{pt.Dot(a, whole(-4, 3)), "0"},
		{pt.Dot(a, api.Pt{}), "0"},
		{pt.Cross(a, b), "10"},
		{pt.Cross(b, a), "-10"},
		{pt.Cross(whole(1, 0), whole(0, 1)), "1"},
		{pt.Cross(a, a), "0"},
		{pt.Cross(a, whole(-6, -8)), "0"},
		{pt.Cross(api.Pt{}, b), "0"},
		{pt.Far(a, b), "20"},
		{pt.Far(a, a), "0"},
		{pt.Far(a, api.Pt{}), "25"},
		{pt.Far(api.Pt{X: rat.Of(1, 2)}, api.Pt{Y: rat.Of(1, 3)}), "13/36"},
	} {
		if !rat.Good(x.a) || rat.Text(x.a) != x.s {
			t.Error(i, x.a)
		}
	}
}

func TestDotCrossFar(t *testing.T) {
	for _, v := range points() {
		for _, w := range points() {
			for i, p := range shapes(given(v)) {
				l := shapes(given(w))
				q := l[i%len(l)]
				if a := pt.Dot(p, q); !is(a, dot(v, w)) {
					t.Error("dot", p, q, a)
				}
				if a := pt.Cross(p, q); !is(a, cross(v, w)) {
					t.Error("cross", p, q, a)
				}
				if a := pt.Far(p, q); !is(a, far(v, w)) {
					t.Error("far", p, q, a)
				}
			}
		}
	}
}

func TestOrientOfFew(t *testing.T) {
	for i, x := range []struct {
		a, b, c api.Pt
		n       int
	}{
		{whole(0, 0), whole(1, 0), whole(0, 1), 1},
		{whole(0, 0), whole(1, 0), whole(0, -1), -1},
		{whole(0, 0), whole(0, 1), whole(1, 0), -1},
		{whole(0, 0), whole(1, 0), whole(5, 0), 0},
		{whole(0, 0), whole(1, 0), whole(-5, 0), 0},
		{whole(2, 2), whole(2, 2), whole(5, 0), 0},
		{whole(5, 0), whole(2, 2), whole(2, 2), 0},
		{whole(2, 2), whole(5, 0), whole(2, 2), 0},
		{whole(2, 2), whole(2, 2), whole(2, 2), 0},
		{whole(10, 10), whole(11, 10), whole(10, 11), 1},
		{whole(-10, -10), whole(-9, -10), whole(-10, -11), -1},
		{whole(1, 1), whole(3, 2), whole(7, 4), 0},
		{whole(1, 1), whole(3, 2), whole(7, 5), 1},
		{whole(1, 1), whole(3, 2), whole(7, 3), -1},
		{whole(0, 0), whole(1, 0), api.Pt{X: rat.Of(1, 2), Y: rat.Of(1, 9223372036854775807)}, 1},
		{whole(0, 0), whole(1, 0), api.Pt{X: rat.Of(1, 2), Y: rat.Of(-1, 9223372036854775807)}, -1},
		{api.Pt{}, whole(1, 0), whole(0, 1), 1},
		{api.Pt{}, api.Pt{}, whole(0, 1), 0},
	} {
		if n := pt.Orient(x.a, x.b, x.c); n != x.n {
			t.Error(i, n)
		}
	}
}

func TestToSegOfFew(t *testing.T) {
	for i, x := range []struct {
		p, a, b api.Pt
		s       string
	}{
		{whole(0, 1), whole(-1, 0), whole(1, 0), "1"},
		{whole(5, 1), whole(-1, 0), whole(1, 0), "17"},
		{whole(-3, 1), whole(-1, 0), whole(1, 0), "5"},
		{whole(-3, 1), whole(1, 0), whole(-1, 0), "5"},
		{whole(1, 3), whole(-1, 0), whole(1, 0), "9"},
		{whole(-1, -3), whole(-1, 0), whole(1, 0), "9"},
		{whole(3, 4), whole(0, 0), whole(0, 0), "25"},
		{whole(3, 4), whole(3, 4), whole(3, 4), "0"},
		{whole(1, 0), whole(0, 0), whole(1, 1), "1/2"},
		{whole(0, 0), whole(0, 0), whole(1, 1), "0"},
		{whole(1, 1), whole(0, 0), whole(1, 1), "0"},
		{whole(1, 1), whole(0, 0), whole(2, 2), "0"},
		{whole(3, 3), whole(0, 0), whole(2, 2), "2"},
		{whole(-1, -1), whole(0, 0), whole(2, 2), "2"},
		{whole(0, 7), whole(3, 5), whole(3, 9), "9"},
		{whole(0, 7), whole(3, 9), whole(3, 5), "9"},
		{whole(0, 0), whole(1, 0), whole(0, 2), "4/5"},
		{api.Pt{}, whole(1, 0), api.Pt{Y: rat.Of(1, 1)}, "1/2"},
	} {
		if a := pt.ToSeg(x.p, x.a, x.b); !rat.Good(a) || rat.Text(a) != x.s {
			t.Error(i, a)
		}
	}
}

// Three of all points, any of which may be one, each in another form.
func TestOrientAndToSeg(t *testing.T) {
	l := points()
	var all [][]api.Pt
	for _, v := range l {
		all = append(all, shapes(given(v)))
	}
	for i, u := range l {
		for j, v := range l {
			for k, w := range l {
				n := i + 2*j + 3*k
				p, a, b := all[i][n%len(all[i])], all[j][n%len(all[j])], all[k][n%len(all[k])]
				if s := pt.Orient(p, a, b); s != cross(from(u, v), from(u, w)).Sign() {
					t.Error("orient", p, a, b, s)
				}
				if s := pt.ToSeg(p, a, b); !is(s, nearest(u, v, w)) {
					t.Error("to seg", p, a, b, s)
				}
			}
		}
	}
}

// A small grid has points of each kind: ends, on the segment, on its line but
// beside it, and those the nearest of which is an end, or is none.
func TestOrientAndToSegOfGrid(t *testing.T) {
	var l []point
	for x := range 4 {
		for y := range 4 {
			l = append(l, point{big.NewRat(int64(x), 2), big.NewRat(int64(y), 3)})
		}
	}
	for _, u := range l {
		for _, v := range l {
			for _, w := range l {
				p, a, b := given(u), given(v), given(w)
				if s := pt.Orient(p, a, b); s != cross(from(u, v), from(u, w)).Sign() {
					t.Error("orient", p, a, b, s)
				}
				if s := pt.ToSeg(p, a, b); !is(s, nearest(u, v, w)) {
					t.Error("to seg", p, a, b, s)
				}
			}
		}
	}
}

// All forms of one point are at one place.
func TestMeasuresOfAllForms(t *testing.T) {
	u, v, w := at("0", "7/2"), at("-1", "0"), at("5/3", "1")
	want := nearest(u, v, w)
	l := shapes(given(w))
	for i, p := range shapes(given(u)) {
		for j, a := range shapes(given(v)) {
			b := l[(i+j)%len(l)]
			if s := pt.ToSeg(p, a, b); !is(s, want) {
				t.Fatal("to seg", p, a, b, s)
			}
			if s := pt.Orient(p, a, b); s != 1 {
				t.Fatal("orient", p, a, b, s)
			}
		}
	}
}

// The segment of one point told in two forms has no length.
func TestToSegOfOnePoint(t *testing.T) {
	for _, v := range points() {
		for _, w := range points() {
			l := shapes(given(v))
			for i, a := range l {
				b := l[(i+5)%len(l)]
				if s := pt.ToSeg(given(w), a, b); !is(s, far(v, w)) {
					t.Error(w, a, b, s)
				}
			}
		}
	}
}
