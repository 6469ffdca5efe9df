package pt_test

import (
	"math/big"
	"slices"

	"gesso/api"
	"gesso/nat"
	"gesso/rat"
)

// point is a point by another implementation of fractions.
type point struct{ x, y *big.Rat }

// number is what s tells, as -22/7 or 3e-20.
func number(s string) *big.Rat {
	v, ok := new(big.Rat).SetString(s)
	if !ok {
		panic("the test itself")
	}
	return v
}

func at(x, y string) point { return point{number(x), number(y)} }

func whole(x, y int64) api.Pt { return api.Pt{X: rat.Of(x, 1), Y: rat.Of(y, 1)} }

func sum(a, b *big.Rat) *big.Rat { return new(big.Rat).Add(a, b) }

func less(a, b *big.Rat) *big.Rat { return new(big.Rat).Sub(a, b) }

func times(a, b *big.Rat) *big.Rat { return new(big.Rat).Mul(a, b) }

// mixed is p and t times the way to q.
func mixed(p, q point, t *big.Rat) point {
	return point{sum(p.x, times(t, less(q.x, p.x))), sum(p.y, times(t, less(q.y, p.y)))}
}

func dot(p, q point) *big.Rat { return sum(times(p.x, q.x), times(p.y, q.y)) }

func cross(p, q point) *big.Rat { return less(times(p.x, q.y), times(p.y, q.x)) }

func from(a, b point) point { return point{less(b.x, a.x), less(b.y, a.y)} }

func far(p, q point) *big.Rat { return dot(from(p, q), from(p, q)) }

// nearest is the square of how far p is from the segment from a to b, by the
// point of the segment that is the nearest one.
func nearest(p, a, b point) *big.Rat {
	t, whole := dot(from(a, p), from(a, b)), far(a, b)
	if whole.Sign() == 0 || t.Sign() < 0 {
		return far(p, a)
	}
	t.Quo(t, whole)
	if t.Cmp(big.NewRat(1, 1)) > 0 {
		return far(p, b)
	}
	return far(p, mixed(a, b, t))
}

// given is p as the program has it, in lowest terms.
func given(p point) api.Pt { return api.Pt{X: fraction(p.x), Y: fraction(p.y)} }

func fraction(v *big.Rat) api.Rat {
	return api.Rat{P: api.Int{Neg: v.Sign() < 0, N: limbs(v.Num())}, Q: limbs(v.Denom())}
}

func limbs(v *big.Int) []uint64 {
	var l []uint64
	for _, w := range v.Bits() {
		l = append(l, uint64(w))
	}
	return l
}

// is tells whether a is good and is want.
func is(a api.Rat, want *big.Rat) bool {
	return rat.Good(a) && rat.Text(a) == want.RatString()
}

// isPoint tells whether both parts of p are good and it is want.
func isPoint(p api.Pt, want point) bool {
	return is(p.X, want.x) && is(p.Y, want.y)
}

// forms are a, which is good, and what is not good but comes to a.
func forms(a api.Rat) []api.Rat {
	l := []api.Rat{a}
	for _, c := range [][]uint64{{1}, {2}, {255}, {0, 1}, {7, 1 << 63}} {
		upper, lower := nat.Mul(a.P.N, c), nat.Mul(a.Q, c)
		l = append(l, with(a, append(upper, 0), append(lower, 0, 0)), with(a, upper, lower))
	}
	if slices.Equal(a.Q, []uint64{1}) {
		l = append(l, with(a, a.P.N, nil), with(a, a.P.N, []uint64{}), with(a, a.P.N, []uint64{0}), with(a, append(slices.Clone(a.P.N), 0), []uint64{0, 0}))
	}
	if rat.Sign(a) == 0 {
		for _, b := range l[:len(l):len(l)] {
			b.P.Neg = true
			l = append(l, b)
		}
	}
	return l
}

func with(a api.Rat, upper, lower []uint64) api.Rat {
	return api.Rat{P: api.Int{Neg: a.P.Neg, N: upper}, Q: lower}
}

// shapes are p, and what is not good in one part or in both but is p.
func shapes(p api.Pt) []api.Pt {
	l := []api.Pt{p}
	xs, ys := forms(p.X), forms(p.Y)
	for i := range max(len(xs), len(ys)) {
		x, y := xs[i%len(xs)], ys[i%len(ys)]
		l = append(l, api.Pt{X: x, Y: p.Y}, api.Pt{X: p.X, Y: y}, api.Pt{X: x, Y: y}, api.Pt{X: x, Y: ys[(i+3)%len(ys)]})
	}
	return l
}

// points are (0, 0), points on the axes and beside them, some that are on one
// line, some that are very near to each other, and some of parts of several
// limbs.
func points() []point {
	var l []point
	for _, x := range [][2]string{
		{"0", "0"}, {"1", "0"}, {"0", "1"}, {"-1", "0"}, {"0", "-1"}, {"1", "1"}, {"2", "2"}, {"-3", "-3"}, {"3", "-4"}, {"1/2", "1/3"}, {"-3/2", "-1"}, {"22/7", "-2/3"},
		{"1/2", "1/2"}, {"1/2", "9223372036854775809/18446744073709551616"}, {"1/2", "18446744073709551615/36893488147419103232"},
		{"18446744073709551615", "18446744073709551616"}, {"-9223372036854775808", "1/18446744073709551616"}, {"340282366920938463463374607431768211457/18446744073709551615", "-1e40"},
		{"1e-60", "-1e60"}, {"-7e-40", "7e-40"}, {"17/31415926535897932384626433832795028841971693993751", "31415926535897932384626433832795028841971693993751/17"},
	} {
		l = append(l, at(x[0], x[1]))
	}
	return l
}

// shares are what a Mix may take of the way: 0, 1, between both, below 0,
// above 1.
func shares() []*big.Rat {
	var l []*big.Rat
	for _, s := range []string{"0", "1", "1/2", "1/3", "2/7", "1e-50", "18446744073709551615/18446744073709551616", "-1", "-1/2", "-1e-50", "2", "3/2", "18446744073709551617/18446744073709551616", "1e50", "-1e50"} {
		l = append(l, number(s))
	}
	return l
}
