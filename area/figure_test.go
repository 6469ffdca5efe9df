package area_test

import (
	"math/big"
	"slices"
)

// figure is a polygon, how large it is, and whether it is convex.
type figure struct {
	what   string
	xy     []int64
	area   string
	convex bool
}

func figures() []figure {
	return []figure{
		{"none", nil, "0", false},
		{"one point", []int64{1, 1}, "0", false},
		{"(0, 0)", []int64{0, 0}, "0", false},
		{"two points", []int64{1, 1, 2, 5}, "0", false},
		{"one point twice", []int64{1, 1, 1, 1}, "0", false},
		{"a triangle", []int64{0, 0, 1, 0, 0, 1}, "1/2", true},
		{"a triangle, turned round", []int64{0, 1, 1, 0, 0, 0}, "-1/2", false},
		{"a triangle around (0, 0)", []int64{-1, -2, 3, -1, -2, 4}, "25/2", true},
		{"three points on one line", []int64{0, 0, 1, 0, 2, 0}, "0", false},
		{"three points on one line, forth and back", []int64{0, 0, 4, 4, 1, 1}, "0", false},
		{"three points, two the same", []int64{0, 0, 1, 0, 1, 0}, "0", false},
		{"three points, the first and the last the same", []int64{3, 1, 1, 0, 3, 1}, "0", false},
		{"one point three times", []int64{2, 1, 2, 1, 2, 1}, "0", false},
		{"a square", []int64{0, 0, 2, 0, 2, 2, 0, 2}, "4", true},
		{"a square, turned round", []int64{0, 2, 2, 2, 2, 0, 0, 0}, "-4", false},
		{"a square, from its third point on", []int64{2, 2, 0, 2, 0, 0, 2, 0}, "4", true},
		{"a square, crosswise", []int64{0, 0, 2, 2, 2, 0, 0, 2}, "0", false},
		{"a square on its corner", []int64{2, 0, 4, 2, 2, 4, 0, 2}, "8", true},
		{"a hexagon", []int64{2, 0, 4, 1, 4, 3, 2, 4, 0, 3, 0, 1}, "12", true},
		{"a hexagon, turned round", []int64{0, 1, 0, 3, 2, 4, 4, 3, 4, 1, 2, 0}, "-12", false},
		{"a hexagon, two of its points swapped", []int64{2, 0, 4, 3, 4, 1, 2, 4, 0, 3, 0, 1}, "8", false},
		{"a point along a side", []int64{0, 0, 1, 0, 2, 0, 0, 1}, "1", true},
		{"many points along two sides", []int64{0, 0, 1, 0, 2, 0, 5, 0, 6, 0, 4, 2, 3, 3, 1, 5, 0, 6}, "18", true},
		{"points along all sides", []int64{0, 0, 1, 0, 2, 0, 2, 1, 2, 2, 1, 2, 0, 2, 0, 1}, "4", true},
		{"the first one along a side", []int64{1, 0, 2, 0, 0, 1, 0, 0}, "1", true},
		{"along a side, forth and back", []int64{0, 0, 2, 0, 1, 0, 0, 1}, "1/2", false},
		{"along a side, beyond and back", []int64{0, 0, 3, 0, 2, 0, 2, 2, 0, 2}, "4", false},
		{"along a side, the last one beyond", []int64{0, 0, 2, 0, 2, 2, 0, 2, 0, -1}, "4", false},
		{"a point twice, next to each other", []int64{0, 0, 1, 0, 1, 0, 0, 1}, "1/2", false},
		{"a point twice, the last and the first", []int64{0, 0, 1, 0, 0, 1, 0, 0}, "1/2", false},
		{"a point twice, apart", []int64{0, 0, 2, 0, 0, 0, 0, 2}, "0", false},
		{"a point twice, apart, two triangles", []int64{0, 0, 2, 0, 2, 2, 0, 0, -2, 0, -2, -2}, "4", false},
		{"a point along a side twice", []int64{0, 0, 1, 0, 1, 0, 2, 0, 0, 2}, "2", false},
		{"a triangle that goes round twice", []int64{0, 0, 1, 0, 0, 1, 0, 0, 1, 0, 0, 1}, "1", false},
		{"five points on one line", []int64{0, 0, 1, 2, 2, 4, 5, 10, -1, -2}, "0", false},
		{"all on one upright line", []int64{3, 0, 3, 4, 3, 1, 3, 9}, "0", false},
		{"all on one level line, there and back", []int64{0, 7, 1, 7, 4, 7, 3, 7}, "0", false},
		{"a star that goes round twice", []int64{0, 10, -6, -8, 10, 3, -10, 3, 6, -8}, "152", false},
		{"a star that goes round twice, turned round", []int64{6, -8, -10, 3, 10, 3, -6, -8, 0, 10}, "-152", false},
		{"going round twice, no point twice, ever outward", []int64{1, 0, 0, 1, -1, 0, 0, -1, 2, 0, 0, 2, -2, 0, 0, -2}, "19/2", false},
		{"going round twice, all turns to the left", []int64{0, 0, 10, 0, 10, 10, 1, 10, 1, 1, 9, 1, 9, 9, 0, 9}, "163", false},
		{"an arrow", []int64{0, 0, 4, 0, 1, 1, 0, 4}, "4", false},
		{"an L", []int64{0, 0, 3, 0, 3, 1, 1, 1, 1, 3, 0, 3}, "5", false},
		{"a hair from straight, outward", []int64{0, 0, 1000000007, -1, 2000000014, 0, 1, 1}, "2000000014", true},
		{"a hair from straight, inward", []int64{0, 0, 1000000007, 1, 2000000014, 0, 1, 1000000007}, "1000000013000000042", false},
	}
}

// size is how large l is, by what is below each of its sides.
func size(l []point) *big.Rat {
	all := new(big.Rat)
	for i, p := range l {
		q := l[(i+1)%len(l)]
		all = sum(all, times(less(p.x, q.x), sum(p.y, q.y)))
	}
	return times(all, big.NewRat(1, 2))
}

// bulges tells whether l is convex, by each of the document's words.
func bulges(l []point) bool {
	flat := true
	for i, p := range l {
		q := l[(i+1)%len(l)]
		for j, r := range l {
			if i != j && same(p, r) || side(p, q, r) < 0 {
				return false
			}
			flat = flat && side(p, q, r) == 0
		}
	}
	return len(l) >= 3 && !flat
}

// crossing is the point that the lines through a and b and through c and d have
// in common, by determinants.
func crossing(a, b, c, d point) point {
	first, second := less(times(a.x, b.y), times(a.y, b.x)), less(times(c.x, d.y), times(c.y, d.x))
	whole := less(times(less(a.x, b.x), less(c.y, d.y)), times(less(a.y, b.y), less(c.x, d.x)))
	x := less(times(first, less(c.x, d.x)), times(less(a.x, b.x), second))
	y := less(times(first, less(c.y, d.y)), times(less(a.y, b.y), second))
	return point{x.Quo(x, whole), y.Quo(y, whole)}
}

// cut is what of l is not to the right of the line from a to b.
func cut(l []point, a, b point) []point {
	if same(a, b) {
		return l
	}
	var left []point
	for i, p := range l {
		q := l[(i+1)%len(l)]
		if side(a, b, p) >= 0 {
			left = append(left, p)
		}
		if side(a, b, p)+side(a, b, q) == 0 && side(a, b, p) != 0 {
			left = append(left, crossing(p, q, a, b))
		}
	}
	return left
}

// covers tells whether p is to the right of no side of l.
func covers(l []point, p point) bool {
	for i, a := range l {
		if side(a, l[(i+1)%len(l)], p) < 0 {
			return false
		}
	}
	return len(l) >= 3
}

// bounds are the least X and Y of l, which has some, and the greatest ones.
func bounds(l []point) (least, most point) {
	var xs, ys []*big.Rat
	for _, p := range l {
		xs, ys = append(xs, p.x), append(ys, p.y)
	}
	slices.SortFunc(xs, (*big.Rat).Cmp)
	slices.SortFunc(ys, (*big.Rat).Cmp)
	return point{xs[0], ys[0]}, point{xs[len(l)-1], ys[len(l)-1]}
}

// star is the points of a convex polygon of that many, each gone on by step
// of them: round and round, if step is above 1.
func star(m plane, many, step int) []point {
	var around []point
	for i := range int64(many) {
		// on a parabola, and so all of them corners
		around = append(around, m.of(i, i*i))
	}
	var l []point
	for i := range many {
		l = append(l, around[i*step%many])
	}
	return l
}

// from is l, beginning with its n-th.
func from[T any](l []T, n int) []T {
	return slices.Concat(l[n:], l[:n])
}

// back is l, turned round.
func back[T any](l []T) []T {
	l = slices.Clone(l)
	slices.Reverse(l)
	return l
}
