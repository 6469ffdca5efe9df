package seg_test

import (
	"math/big"
	"slices"

	"gesso/api"
	"gesso/nat"
	"gesso/rat"
)

// point is a point by another implementation of fractions.
type point struct{ x, y *big.Rat }

// number is what s tells, as -22/7 or 3e-20.
func number(s string) *big.Rat {
	v, ok := new(big.Rat).SetString(s)
	if !ok {
		panic("the test itself")
	}
	return v
}

func at(x, y string) point { return point{number(x), number(y)} }

func whole(x, y int64) api.Pt { return api.Pt{X: rat.Of(x, 1), Y: rat.Of(y, 1)} }

func sum(a, b *big.Rat) *big.Rat { return new(big.Rat).Add(a, b) }

func less(a, b *big.Rat) *big.Rat { return new(big.Rat).Sub(a, b) }

func times(a, b *big.Rat) *big.Rat { return new(big.Rat).Mul(a, b) }

// mixed is p and t times the way to q.
func mixed(p, q point, t *big.Rat) point {
	return point{sum(p.x, times(t, less(q.x, p.x))), sum(p.y, times(t, less(q.y, p.y)))}
}

func dot(p, q point) *big.Rat { return sum(times(p.x, q.x), times(p.y, q.y)) }

func cross(p, q point) *big.Rat { return less(times(p.x, q.y), times(p.y, q.x)) }

func from(a, b point) point { return point{less(b.x, a.x), less(b.y, a.y)} }

func far(p, q point) *big.Rat { return dot(from(p, q), from(p, q)) }

// nearest is the square of how far p is from the segment from a to b, by the
// point of the segment that is the nearest one.
func nearest(p, a, b point) *big.Rat {
	t, whole := dot(from(a, p), from(a, b)), far(a, b)
	if whole.Sign() == 0 || t.Sign() < 0 {
		return far(p, a)
	}
	t.Quo(t, whole)
	if t.Cmp(big.NewRat(1, 1)) > 0 {
		return far(p, b)
	}
	return far(p, mixed(a, b, t))
}

// given is p as the program has it, in lowest terms.
func given(p point) api.Pt { return api.Pt{X: fraction(p.x), Y: fraction(p.y)} }

func fraction(v *big.Rat) api.Rat {
	return api.Rat{P: api.Int{Neg: v.Sign() < 0, N: limbs(v.Num())}, Q: limbs(v.Denom())}
}

func limbs(v *big.Int) []uint64 {
	var l []uint64
	for _, w := range v.Bits() {
		l = append(l, uint64(w))
	}
	return l
}

// is tells whether a is good and is want.
func is(a api.Rat, want *big.Rat) bool {
	return rat.Good(a) && rat.Text(a) == want.RatString()
}

// isPoint tells whether both parts of p are good and it is want.
func isPoint(p api.Pt, want point) bool {
	return is(p.X, want.x) && is(p.Y, want.y)
}

// forms are a, which is good, and what is not good but comes to a.
func forms(a api.Rat) []api.Rat {
	l := []api.Rat{a}
	for _, c := range [][]uint64{{1}, {2}, {255}, {0, 1}, {7, 1 << 63}} {
		upper, lower := nat.Mul(a.P.N, c), nat.Mul(a.Q, c)
		l = append(l, with(a, append(upper, 0), append(lower, 0, 0)), with(a, upper, lower))
	}
	if slices.Equal(a.Q, []uint64{1}) {
		l = append(l, with(a, a.P.N, nil), with(a, a.P.N, []uint64{}), with(a, a.P.N, []uint64{0}), with(a, append(slices.Clone(a.P.N), 0), []uint64{0, 0}))
	}
	if rat.Sign(a) == 0 {
		for _, b := range l[:len(l):len(l)] {
			b.P.Neg = true
			l = append(l, b)
		}
	}
	return l
}

func with(a api.Rat, upper, lower []uint64) api.Rat {
	return api.Rat{P: api.Int{Neg: a.P.Neg, N: upper}, Q: lower}
}

// shapes are p, and what is not good in one part or in both but is p.
func shapes(p api.Pt) []api.Pt {
	l := []api.Pt{p}
	xs, ys := forms(p.X), forms(p.Y)
	for i := range max(len(xs), len(ys)) {
		x, y := xs[i%len(xs)], ys[i%len(ys)]
		l = append(l, api.Pt{X: x, Y: p.Y}, api.Pt{X: p.X, Y: y}, api.Pt{X: x, Y: y}, api.Pt{X: x, Y: ys[(i+3)%len(ys)]})
	}
	return l
}

// plane is a map of the plane that keeps lines, and what is between what on
// them.
type plane struct{ xx, xy, x, yx, yy, y *big.Rat }

// planes are maps to points of all sorts: the first leaves all as it is.
func planes() []plane {
	var l []plane
	for _, s := range [][6]string{
		{"1", "0", "0", "0", "1", "0"},
		{"0", "-1", "2", "1", "0", "-3"},
		{"2", "1", "1/2", "1", "-3", "-1/3"},
		{"18446744073709551616", "-1/3", "340282366920938463463374607431768211457/7", "-9223372036854775807/5", "1e40", "-1e41"},
		{"1e-40", "-3e-41", "22/7", "-1/31415926535897932384626433832795028841971693993751", "7e-60", "18446744073709551615"},
	} {
		l = append(l, plane{number(s[0]), number(s[1]), number(s[2]), number(s[3]), number(s[4]), number(s[5])})
	}
	return l
}

// of is where m brings (x, y).
func (m plane) of(x, y int64) point {
	u, v := big.NewRat(x, 1), big.NewRat(y, 1)
	return point{sum(m.x, sum(times(m.xx, u), times(m.xy, v))), sum(m.y, sum(times(m.yx, u), times(m.yy, v)))}
}

// grid are the points that m makes of those of w by h whole numbers.
func (m plane) grid(w, h int64) []point {
	var l []point
	for x := range w {
		for y := range h {
			l = append(l, m.of(x, y))
		}
	}
	return l
}

// span is a stretch of the way along a segment, from 0 to 1: none, if it ends
// ahead of where it begins.
type span struct{ from, to *big.Rat }

func all() span { return span{new(big.Rat), big.NewRat(1, 1)} }

// none tells whether s has nothing.
func (s span) none() bool { return s.from.Cmp(s.to) > 0 }

// cut is what of s has k and t times m at least low and at most high, t being
// how far along it is.
func (s span) cut(k, m, low, high *big.Rat) span {
	if m.Sign() == 0 {
		if k.Cmp(low) < 0 || k.Cmp(high) > 0 {
			return span{big.NewRat(1, 1), new(big.Rat)}
		}
		return s
	}
	first, last := new(big.Rat).Quo(less(low, k), m), new(big.Rat).Quo(less(high, k), m)
	if m.Sign() < 0 {
		first, last = last, first
	}
	return span{greater(s.from, first), lesser(s.to, last)}
}

func greater(a, b *big.Rat) *big.Rat {
	if a.Cmp(b) > 0 {
		return a
	}
	return b
}

func lesser(a, b *big.Rat) *big.Rat {
	if a.Cmp(b) < 0 {
		return a
	}
	return b
}

// met are the points that two segments have in common, by what is left of the
// first one, when all is cut away that is not on the second.
func met(a, b, c, d point) []point {
	left, nought := all(), new(big.Rat)
	if far(a, b).Sign() == 0 {
		left.to = nought
	}
	way, other, between := from(a, b), from(c, d), from(c, a)
	if far(c, d).Sign() == 0 {
		left = left.cut(between.x, way.x, nought, nought).cut(between.y, way.y, nought, nought)
	} else {
		left = left.cut(cross(between, other), cross(way, other), nought, nought).cut(dot(between, other), dot(way, other), nought, far(c, d))
	}
	switch {
	case left.none():
		return nil
	case left.from.Cmp(left.to) == 0:
		return []point{mixed(a, b, left.from)}
	}
	return []point{mixed(a, b, left.from), mixed(a, b, left.to)}
}

// arePoints tells whether l are good and are want, in its order.
func arePoints(l []api.Pt, want []point) bool {
	return slices.EqualFunc(l, want, isPoint)
}
