package area_test

import (
	"testing"

	"gesso/api"
	"gesso/area"
	"gesso/pt"
)

// P8.2: Has.

func TestHasOfFew(t *testing.T) {
	square := []int64{0, 0, 2, 0, 2, 2, 0, 2}
	for _, x := range []struct {
		what string
		xy   []int64
		x, y int64
		has  bool
	}{
		{"inside", square, 1, 1, true},
		{"at the first corner", square, 0, 0, true},
		{"at another corner", square, 2, 2, true},
		{"at the last corner", square, 0, 2, true},
		{"on a side", square, 2, 1, true},
		{"on the last side", square, 0, 1, true},
		{"on a side's line, beyond", square, 3, 0, false},
		{"on a side's line, ahead", square, -1, 0, false},
		{"on the last side's line, beyond", square, 0, -1, false},
		{"on the last side's line, ahead", square, 0, 3, false},
		{"outside, by the first side alone", square, 1, -1, false},
		{"outside, by the second side alone", square, 3, 1, false},
		{"outside, by the last side alone", square, -1, 1, false},
		{"outside, by two", square, 3, 3, false},
		{"turned round, inside", []int64{0, 2, 2, 2, 2, 0, 0, 0}, 1, 1, false},
		{"turned round, at a corner", []int64{0, 2, 2, 2, 2, 0, 0, 0}, 2, 2, false},
		{"none", nil, 0, 0, false},
		{"one point", []int64{1, 1}, 1, 1, false},
		{"two points, between them", []int64{0, 0, 2, 0}, 1, 0, false},
		{"two points, one of them", []int64{0, 0, 2, 0}, 0, 0, false},
		{"three on one line, on it", []int64{0, 0, 1, 0, 2, 0}, 1, 0, true},
		{"three on one line, on it, beyond", []int64{0, 0, 1, 0, 2, 0}, 7, 0, true},
		{"three on one line, beside it", []int64{0, 0, 1, 0, 2, 0}, 1, 1, false},
		{"one point three times", []int64{1, 1, 1, 1, 1, 1}, 1, 1, true},
		{"one point three times, beside it", []int64{1, 1, 1, 1, 1, 1}, 5, -7, true},
		{"a point twice, inside", []int64{0, 0, 3, 0, 3, 0, 0, 3}, 1, 1, true},
		{"a point twice, outside", []int64{0, 0, 3, 0, 3, 0, 0, 3}, 2, 2, false},
		{"an L, in the part that each side has on its left", []int64{0, 0, 3, 0, 3, 1, 1, 1, 1, 3, 0, 3}, 1, 1, true},
		{"an L, in an arm", []int64{0, 0, 3, 0, 3, 1, 1, 1, 1, 3, 0, 3}, 2, 0, false},
		{"a star, in its middle", []int64{0, 4, -2, -4, 4, 2, -4, 2, 2, -4}, 0, 0, true},
		{"a star, in a point of it", []int64{0, 4, -2, -4, 4, 2, -4, 2, 2, -4}, 0, 3, false},
		{"a star, at a point of it", []int64{0, 4, -2, -4, 4, 2, -4, 2, 2, -4}, 0, 4, false},
	} {
		if area.Has(wholes(x.xy...), whole(x.x, x.y)) != x.has {
			t.Error(x.what)
		}
	}
}

// All points of a grid and each figure, behind each map.
func TestHasOfFewMapped(t *testing.T) {
	for i, m := range planes() {
		grid := append(m.grid(6, 5), m.of(-1, 0), m.of(0, -1), m.of(1000000008, 1), m.of(-2, 7))
		for _, x := range figures() {
			l := m.all(x.xy)
			for n, v := range grid {
				for _, o := range [][]point{l, back(l)} {
					want := covers(o, v)
					if got := area.Has(givens(o), given(v)); got != want {
						t.Error(i, x.what, v, got)
					}
					if got := area.Has(allShaped(givens(o), n), shaped(given(v), 2*n+1)); got != want {
						t.Error(i, x.what, v, n, got)
					}
				}
			}
		}
	}
}

// A convex one has its points and what is between them, and not what is a
// little beside a side.
func TestHasOfConvex(t *testing.T) {
	share, little := fraction(number("1/3")), fraction(number("1e-70"))
	for i, m := range planes() {
		for _, x := range figures() {
			l := givens(m.all(x.xy))
			if !area.Convex(l) {
				l = back(l)
			}
			if !area.Convex(l) {
				continue
			}
			for j, p := range l {
				q := l[(j+1)%len(l)]
				for _, r := range l {
					if !area.Has(l, r) || !area.Has(l, pt.Mix(p, r, share)) || !area.Has(l, pt.Mix(pt.Mix(p, q, share), r, share)) {
						t.Error(i, x.what, p, q, r)
					}
				}
				way := pt.Sub(q, p)
				aside := pt.Scale(api.Pt{X: way.Y, Y: pt.Sub(api.Pt{}, way).X}, little)
				if area.Has(l, pt.Add(pt.Mix(p, q, share), aside)) {
					t.Error(i, x.what, p, q, "to the right")
				}
			}
		}
	}
}
