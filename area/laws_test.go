package area_test

import (
	"testing"

	"gesso/api"
	"gesso/area"
	"gesso/pt"
	"gesso/rat"
)

// P8.3, and what else follows from P8.1 and P8.2.

// Both halves together have the polygon's area, one that is not convex too.
func TestHalvesTogether(t *testing.T) {
	for i, m := range planes() {
		ends := givens(lineEnds(m, i))
		for _, x := range figures() {
			l := givens(m.all(x.xy))
			for _, a := range ends {
				for _, b := range ends {
					if pt.Same(a, b) {
						continue
					}
					one, other := area.Area(area.Half(l, a, b)), area.Area(area.Half(l, b, a))
					if rat.Cmp(rat.Add(one, other), area.Area(l)) != 0 {
						t.Error(i, x.what, a, b)
					}
					if area.Convex(l) && (rat.Sign(one) < 0 || rat.Sign(other) < 0) {
						t.Error(i, x.what, a, b, "below 0")
					}
				}
			}
		}
	}
}

// convexes are those figures behind m that are convex as they are or turned
// round.
func convexes(m plane) [][]api.Pt {
	var all [][]api.Pt
	for _, x := range figures() {
		for _, l := range [][]api.Pt{givens(m.all(x.xy)), back(givens(m.all(x.xy)))} {
			if area.Convex(l) {
				all = append(all, l)
			}
		}
	}
	return all
}

// Half of a convex one is convex, or has no area; it is to the left of the
// line, and in the polygon.
func TestHalfOfConvex(t *testing.T) {
	for i, m := range planes() {
		ends := givens(lineEnds(m, i))
		all := convexes(m)
		if len(all) < 10 {
			t.Fatal("the test itself", i, len(all))
		}
		for j, l := range all {
			for _, a := range ends {
				for _, b := range ends {
					h := area.Half(l, a, b)
					if area.Convex(h) != (rat.Sign(area.Area(h)) > 0) {
						t.Error(i, j, a, b, texts(h))
					}
					for _, p := range h {
						if !area.Has(l, p) || pt.Orient(a, b, p) < 0 {
							t.Error(i, j, a, b, p)
						}
					}
				}
			}
		}
	}
}

// What a half that has an area has is what the polygon has to the left.
func TestHasOfHalf(t *testing.T) {
	for i, m := range planes() {
		ends, points := givens(m.grid(3, 2)), givens(m.grid(5, 4))
		for j, l := range convexes(m) {
			for _, a := range ends {
				for _, b := range ends {
					h := area.Half(l, a, b)
					if rat.Sign(area.Area(h)) == 0 {
						continue
					}
					for _, p := range points {
						if area.Has(h, p) != (area.Has(l, p) && pt.Orient(a, b, p) >= 0) {
							t.Error(i, j, a, b, p)
						}
					}
				}
			}
		}
	}
}

// A half has nothing more to cut off.
func TestHalfOfHalf(t *testing.T) {
	for i, m := range planes() {
		ends := givens(m.grid(3, 3))
		for _, x := range figures() {
			l := givens(m.all(x.xy))
			for _, a := range ends {
				for _, b := range ends {
					h := area.Half(l, a, b)
					if s := texts(area.Half(h, a, b)); s != texts(h) {
						t.Error(i, x.what, a, b, s)
					}
				}
			}
		}
	}
}

// What is in the polygon is in its box, and the box has no more than it needs.
func TestBoxHas(t *testing.T) {
	for i, m := range planes() {
		for j, l := range convexes(m) {
			least, most, _ := area.Box(l)
			box := []api.Pt{least, {X: most.X, Y: least.Y}, most, {X: least.X, Y: most.Y}}
			if !area.Convex(box) {
				t.Error(i, j, texts(box))
			}
			for _, p := range l {
				if !area.Has(box, p) {
					t.Error(i, j, p)
				}
			}
			for n := range box {
				if s := area.Half(l, box[(n+1)%4], box[n]); len(s) == 0 || rat.Sign(area.Area(s)) != 0 {
					t.Error(i, j, n, texts(s))
				}
			}
		}
	}
}
