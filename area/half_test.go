package area_test

import (
	"testing"

	"gesso/api"
	"gesso/area"
	"gesso/pt"
	"gesso/rat"
)

// P8.2: Half.

func TestHalfOfFew(t *testing.T) {
	square := []int64{0, 0, 2, 0, 2, 2, 0, 2}
	ell := []int64{0, 0, 3, 0, 3, 1, 1, 1, 1, 3, 0, 3}
	for _, x := range []struct {
		what string
		xy   []int64
		line [4]int64
		s    string
	}{
		{"through two corners", square, [4]int64{0, 0, 2, 2}, "0 0; 2 2; 0 2"},
		{"through two corners, against", square, [4]int64{2, 2, 0, 0}, "0 0; 2 0; 2 2"},
		{"through two corners, by two other points", square, [4]int64{-7, -7, 5, 5}, "0 0; 2 2; 0 2"},
		{"through two sides", square, [4]int64{1, 0, 1, 5}, "0 0; 1 0; 1 2; 0 2"},
		{"through two sides, against", square, [4]int64{1, 5, 1, 0}, "1 0; 2 0; 2 2; 1 2"},
		{"through two sides, neither level nor upright", square, [4]int64{0, 1, 3, 2}, "2 5/3; 2 2; 0 2; 0 1"},
		{"through a side and a corner", square, [4]int64{0, 0, 1, 2}, "0 0; 1 2; 0 2"},
		{"through a corner and a side", square, [4]int64{2, 4, 0, 0}, "0 0; 2 0; 2 2; 1 2"},
		{"a corner off", square, [4]int64{3, 0, 0, 3}, "0 0; 2 0; 2 1; 1 2; 0 2"},
		{"a corner alone", square, [4]int64{0, 3, 3, 0}, "2 1; 2 2; 1 2"},
		{"a corner is touched from outside", square, [4]int64{-1, 1, 1, -1}, "0 0; 2 0; 2 2; 0 2"},
		{"a corner is touched, the rest to the right", square, [4]int64{1, -1, -1, 1}, "0 0"},
		{"along a side", square, [4]int64{0, 0, 1, 0}, "0 0; 2 0; 2 2; 0 2"},
		{"along a side, the rest to the right", square, [4]int64{5, 0, 3, 0}, "0 0; 2 0"},
		{"wholly to the left", square, [4]int64{5, 0, 5, 1}, "0 0; 2 0; 2 2; 0 2"},
		{"wholly to the right", square, [4]int64{5, 1, 5, 0}, ""},
		{"both points the same, within", square, [4]int64{1, 1, 1, 1}, "0 0; 2 0; 2 2; 0 2"},
		{"both points the same, beside", square, [4]int64{9, -9, 9, -9}, "0 0; 2 0; 2 2; 0 2"},
		{"both points the same, a corner", square, [4]int64{2, 2, 2, 2}, "0 0; 2 0; 2 2; 0 2"},
		{"not convex, four sides", ell, [4]int64{0, 2, 2, 2}, "1 2; 1 3; 0 3; 0 2"},
		{"not convex, in two parts", ell, [4]int64{0, 3, 3, 0}, "3 0; 3 1; 2 1; 1 2; 1 3; 0 3"},
		{"not convex, the inner part", ell, [4]int64{3, 0, 0, 3}, "0 0; 3 0; 2 1; 1 1; 1 2; 0 3"},
		{"not convex, along an inner side", ell, [4]int64{7, 1, 6, 1}, "0 0; 3 0; 3 1; 1 1; 0 1"},
		{"none", nil, [4]int64{0, 0, 1, 1}, ""},
		{"none, and no line", nil, [4]int64{1, 1, 1, 1}, ""},
		{"one point to the left", []int64{0, 0}, [4]int64{1, 0, 1, 1}, "0 0"},
		{"one point to the right", []int64{2, 0}, [4]int64{1, 0, 1, 1}, ""},
		{"one point on the line", []int64{1, 7}, [4]int64{1, 0, 1, 1}, "1 7"},
		{"two points, forth and back", []int64{0, 0, 3, 0}, [4]int64{1, 0, 1, 1}, "0 0; 1 0; 1 0"},
		{"two points, the second to the left", []int64{3, 0, 0, 0}, [4]int64{1, 0, 1, 1}, "1 0; 0 0; 1 0"},
		{"two points, one on the line", []int64{1, 0, 3, 0}, [4]int64{1, 0, 1, 1}, "1 0"},
		{"two points, not half way", []int64{0, 0, 3, 7}, [4]int64{1, 0, 1, 1}, "0 0; 1 7/3; 1 7/3"},
		{"one point twice, to the left", []int64{0, 0, 0, 0}, [4]int64{1, 0, 1, 1}, "0 0; 0 0"},
		{"a point twice", []int64{0, 0, 3, 0, 3, 0, 0, 3}, [4]int64{1, 0, 1, 1}, "0 0; 1 0; 1 2; 0 3"},
		{"a point twice, to the left", []int64{0, 0, 3, 0, 3, 0, 0, 3}, [4]int64{1, 1, 1, 0}, "1 0; 3 0; 3 0; 1 2"},
		{"all on the line", []int64{0, 0, 2, 2, 1, 1, 5, 5}, [4]int64{-1, -1, 0, 0}, "0 0; 2 2; 1 1; 5 5"},
		{"going to the right", []int64{0, 2, 2, 2, 2, 0, 0, 0}, [4]int64{1, 0, 1, 5}, "0 2; 1 2; 1 0; 0 0"},
		{"a star", []int64{0, 4, -2, -4, 4, 2, -4, 2, 2, -4}, [4]int64{0, 1, 1, 1}, "0 4; -3/4 1; 3 1; 4 2; -4 2; -3 1; 3/4 1"},
	} {
		l := area.Half(wholes(x.xy...), whole(x.line[0], x.line[1]), whole(x.line[2], x.line[3]))
		if s := texts(l); s != x.s {
			t.Error(x.what, s)
		}
	}
}

// lineEnds are the points through two of which lines go: for the first map,
// which leaves all as it is, more of them.
func lineEnds(m plane, i int) []point {
	if i == 0 {
		return m.grid(4, 3)
	}
	return append(m.grid(3, 2), m.of(5, 1))
}

// All lines through two points of a grid, one among them, through each figure,
// behind each map.
func TestHalfOfFewMapped(t *testing.T) {
	for i, m := range planes() {
		ends := lineEnds(m, i)
		for _, x := range figures() {
			l := m.all(x.xy)
			for j, a := range ends {
				for k, b := range ends {
					want := cut(l, a, b)
					if got := area.Half(givens(l), given(a), given(b)); !arePoints(got, want) {
						t.Error(i, x.what, a, b, texts(got))
					}
					n := 5*j + 7*k
					if got := area.Half(allShaped(givens(l), n), shaped(given(a), n/2), shaped(given(b), n/3)); !arePoints(got, want) {
						t.Error(i, x.what, a, b, n, texts(got))
					}
				}
			}
		}
	}
}

// Both points of the line the same, told in two forms: it is the polygon.
func TestHalfOfNoLine(t *testing.T) {
	for i, m := range planes() {
		for _, x := range figures() {
			l := m.all(x.xy)
			for _, v := range m.grid(2, 2) {
				for n := range 6 {
					if got := area.Half(allShaped(givens(l), n), shaped(given(v), n), shaped(given(v), 3*n+1)); !arePoints(got, l) {
						t.Error(i, x.what, v, n, texts(got))
					}
				}
			}
		}
	}
}

// Very near to a corner, on either side of it and through it.
func TestHalfNearACorner(t *testing.T) {
	l, up := wholes(0, 0, 2, 0, 2, 2, 0, 2), fraction(number("1e-60"))
	for i, x := range []struct {
		at           api.Pt
		most, corner int
	}{
		{api.Pt{Y: up}, 5, 3},
		{api.Pt{}, 4, 1},
		{api.Pt{Y: rat.Neg(up)}, 4, 0},
	} {
		down := pt.Add(x.at, whole(1, -1))
		if got := area.Half(l, x.at, down); len(got) != x.most {
			t.Error(i, texts(got), "but the corner")
		}
		if got := area.Half(l, down, x.at); len(got) != x.corner {
			t.Error(i, texts(got), "the corner alone")
		}
	}
}

// What Half tells is new: changing it changes nothing that was handed in.
func TestHalfIsNew(t *testing.T) {
	l := wholes(0, 0, 2, 0, 2, 2, 0, 2)
	for i, x := range [][2]api.Pt{{whole(1, 1), whole(1, 1)}, {whole(5, 0), whole(5, 1)}, {whole(0, 0), whole(2, 2)}} {
		h := area.Half(l, x[0], x[1])
		for n := range h {
			h[n] = whole(9, 9)
		}
		if texts(l) != "0 0; 2 0; 2 2; 0 2" {
			t.Error(i, texts(l))
		}
	}
}
