package pt

import (
	"gesso/api"
	"gesso/rat"
)

// Dot is the product of the X and that of the Y, together.
func Dot(p, q api.Pt) api.Rat {
	return rat.Add(rat.Mul(p.X, q.X), rat.Mul(p.Y, q.Y))
}

// Cross is p's X times q's Y less p's Y times q's X: above 0, if q is to the
// left of p.
func Cross(p, q api.Pt) api.Rat {
	return rat.Sub(crosswise(p, q))
}

// crosswise are the two products of which Cross is the difference.
func crosswise(p, q api.Pt) (first, second api.Rat) {
	return rat.Mul(p.X, q.Y), rat.Mul(p.Y, q.X)
}

// Orient is 1, if c is to the left of the way from a to b, -1, if it is to the
// right, 0, if it is on their line or they are one point.
func Orient(a, b, c api.Pt) int {
	// the sign of a difference, which need not be reckoned for it
	return rat.Cmp(crosswise(Sub(b, a), Sub(c, a)))
}

// Far is the square of how far p and q are apart.
func Far(p, q api.Pt) api.Rat {
	return square(Sub(q, p))
}

// square is that of p's length.
func square(p api.Pt) api.Rat {
	return Dot(p, p)
}

// ToSeg is the square of how far p is from the nearest point of the segment
// from a to b.
func ToSeg(p, a, b api.Pt) api.Rat {
	way, there := Sub(b, a), Sub(p, a)
	forth, whole := Dot(there, way), square(way)
	switch {
	case rat.Sign(forth) <= 0: // also if a and b are one point
		return square(there)
	case rat.Cmp(forth, whole) >= 0:
		return Far(p, b)
	}
	aside := Cross(way, there)
	// whole is above forth, and so above 0
	far, _ := rat.Div(rat.Mul(aside, aside), whole)
	return far
}
