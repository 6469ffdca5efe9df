package area_test

import (
	"testing"

	"gesso/api"
	"gesso/area"
)

// P8.1: Convex.

func TestConvexOfFew(t *testing.T) {
	for _, x := range figures() {
		if area.Convex(wholes(x.xy...)) != x.convex {
			t.Error(x.what)
		}
	}
}

// Behind each map, from each of its points on, and turned round, in lowest
// terms and in forms that are not good.
func TestConvexOfFewMapped(t *testing.T) {
	for i, m := range planes() {
		for _, x := range figures() {
			l := m.all(x.xy)
			for n := range max(1, len(l)) {
				one, other := from(l, n), back(from(l, n))
				if got, want := area.Convex(givens(one)), bulges(one); got != want || i == 0 && want != x.convex {
					t.Error(i, x.what, n, got)
				}
				if got := area.Convex(givens(other)); got != bulges(other) {
					t.Error(i, x.what, n, "turned round", got)
				}
				for k := range 6 {
					if got := area.Convex(allShaped(givens(one), n+5*k)); got != bulges(one) {
						t.Error(i, x.what, n, k, got)
					}
				}
			}
		}
	}
}

// All lists of three and of four points of a grid, and of five of a smaller
// one: the same point twice, all on one line, points along sides and crosswise
// are among them.
func TestConvexOfGrid(t *testing.T) {
	m := planes()[0]
	checkConvexOfAll(t, m.grid(3, 3), 3)
	checkConvexOfAll(t, m.grid(3, 3), 4)
	checkConvexOfAll(t, m.grid(3, 2), 5)
	checkConvexOfAll(t, m.grid(5, 1), 5)
	for _, n := range planes()[1:] {
		checkConvexOfAll(t, n.grid(2, 2), 4)
		checkConvexOfAll(t, n.grid(3, 1), 4)
	}
}

// checkConvexOfAll goes through all lists of that many of those points.
func checkConvexOfAll(t *testing.T, of []point, many int) {
	t.Helper()
	all := givens(of)
	lists := 1
	for range many {
		lists *= len(of)
	}
	for n := range lists {
		var l []point
		var g []api.Pt
		for range many {
			l, g = append(l, of[n%len(of)]), append(g, all[n%len(of)])
			n /= len(of)
		}
		if got := area.Convex(g); got != bulges(l) {
			t.Error(g, got)
		}
	}
}

// Stars turn to the left all along, as convex polygons do, but go round more
// than once.
func TestConvexOfStars(t *testing.T) {
	for i, m := range planes() {
		for many := 3; many < 12; many++ {
			for step := 1; step < many; step++ {
				l := star(m, many, step)
				if got := area.Convex(givens(l)); got != bulges(l) || i == 0 && got != (step == 1) {
					t.Error(i, many, step, got)
				}
			}
		}
	}
}

// One point of a convex polygon in the place of another one, or swapped with
// it.
func TestConvexOfNearlyConvex(t *testing.T) {
	for i, m := range planes() {
		l := star(m, 7, 1)
		for j := range l {
			for k := range l {
				one, other := from(l, 0), from(l, 0)
				one[j] = one[k]
				other[j], other[k] = other[k], other[j]
				if area.Convex(givens(one)) != (j == k && bulges(l)) {
					t.Error(i, j, k, "twice")
				}
				if area.Convex(givens(other)) != bulges(other) {
					t.Error(i, j, k, "swapped")
				}
			}
		}
	}
}

// One point told in two forms is the same one.
func TestConvexOfOnePointInTwoForms(t *testing.T) {
	for i, m := range planes() {
		l := givens(star(m, 5, 1))
		if i == 2 || i == 4 {
			l = back(l)
		}
		for n := range l {
			for k := range 8 {
				apart := append(from(l, n), shaped(l[n], k))
				beside := append(from(l, n)[:1:1], append([]api.Pt{shaped(l[n], k)}, from(l, n)[1:]...)...)
				if area.Convex(apart) || area.Convex(beside) {
					t.Error(i, n, k)
				}
			}
		}
	}
}

func TestConvexOfFewerThanThreeWithRoom(t *testing.T) {
	room := wholes(0, 0, 2, 0, 2, 2, 0, 2)
	for n := range 3 {
		if area.Convex(room[:n]) {
			t.Error(n)
		}
	}
	if !area.Convex(room[:3]) || !area.Convex(room) {
		t.Error("three, four")
	}
}
