package area_test

import (
	"math/big"
	"slices"
	"strings"

	"gesso/api"
	"gesso/nat"
	"gesso/rat"
)

// point is a point by another implementation of fractions.
type point struct{ x, y *big.Rat }

// number is what s tells, as -22/7 or 3e-20.
func number(s string) *big.Rat {
	v, ok := new(big.Rat).SetString(s)
	if !ok {
		panic("the test itself")
	}
	return v
}

func whole(x, y int64) api.Pt { return api.Pt{X: rat.Of(x, 1), Y: rat.Of(y, 1)} }

// wholes are points of whole numbers, X and Y by turns.
func wholes(xy ...int64) []api.Pt {
	var l []api.Pt
	for i := 0; i < len(xy); i += 2 {
		l = append(l, whole(xy[i], xy[i+1]))
	}
	return l
}

func texts(l []api.Pt) string {
	var s []string
	for _, p := range l {
		s = append(s, rat.Text(p.X)+" "+rat.Text(p.Y))
	}
	return strings.Join(s, "; ")
}

func sum(a, b *big.Rat) *big.Rat { return new(big.Rat).Add(a, b) }

func less(a, b *big.Rat) *big.Rat { return new(big.Rat).Sub(a, b) }

func times(a, b *big.Rat) *big.Rat { return new(big.Rat).Mul(a, b) }

// mixed is p and t times the way to q.
func mixed(p, q point, t *big.Rat) point {
	return point{sum(p.x, times(t, less(q.x, p.x))), sum(p.y, times(t, less(q.y, p.y)))}
}

// side is 1, if p is to the left of the line from a to b, -1, if to the right.
func side(a, b, p point) int {
	return times(less(b.x, a.x), less(p.y, a.y)).Cmp(times(less(b.y, a.y), less(p.x, a.x)))
}

func same(p, q point) bool { return p.x.Cmp(q.x) == 0 && p.y.Cmp(q.y) == 0 }

// given is p as the program has it, in lowest terms.
func given(p point) api.Pt { return api.Pt{X: fraction(p.x), Y: fraction(p.y)} }

// givens are l as the program has them.
func givens(l []point) []api.Pt {
	var all []api.Pt
	for _, p := range l {
		all = append(all, given(p))
	}
	return all
}

func fraction(v *big.Rat) api.Rat {
	return api.Rat{P: api.Int{Neg: v.Sign() < 0, N: limbs(v.Num())}, Q: limbs(v.Denom())}
}

func limbs(v *big.Int) []uint64 {
	var l []uint64
	for _, w := range v.Bits() {
		l = append(l, uint64(w))
	}
	return l
}

// is tells whether a is good and is want.
func is(a api.Rat, want *big.Rat) bool {
	return rat.Good(a) && rat.Text(a) == want.RatString()
}

// isPoint tells whether both parts of p are good and it is want.
func isPoint(p api.Pt, want point) bool {
	return is(p.X, want.x) && is(p.Y, want.y)
}

// arePoints tells whether l are good and are want, in its order.
func arePoints(l []api.Pt, want []point) bool {
	return slices.EqualFunc(l, want, isPoint)
}

// forms are a, which is good, and what is not good but comes to a.
func forms(a api.Rat) []api.Rat {
	l := []api.Rat{a}
	for _, c := range [][]uint64{{1}, {2}, {255}, {0, 1}, {7, 1 << 63}} {
		upper, lower := nat.Mul(a.P.N, c), nat.Mul(a.Q, c)
		l = append(l, with(a, append(upper, 0), append(lower, 0, 0)), with(a, upper, lower))
	}
	if slices.Equal(a.Q, []uint64{1}) {
		l = append(l, with(a, a.P.N, nil), with(a, a.P.N, []uint64{}), with(a, a.P.N, []uint64{0}), with(a, append(slices.Clone(a.P.N), 0), []uint64{0, 0}))
	}
	if rat.Sign(a) == 0 {
		for _, b := range l[:len(l):len(l)] {
			b.P.Neg = true
			l = append(l, b)
		}
	}
	return l
}

func with(a api.Rat, upper, lower []uint64) api.Rat {
	return api.Rat{P: api.Int{Neg: a.P.Neg, N: upper}, Q: lower}
}

// shaped is p in the form of that number: each number may mean another one,
// good or not in either part.
func shaped(p api.Pt, n int) api.Pt {
	xs, ys := forms(p.X), forms(p.Y)
	return api.Pt{X: xs[n%len(xs)], Y: ys[(n/3+2*n)%len(ys)]}
}

// allShaped are l, each point in another form, beginning with that number.
func allShaped(l []api.Pt, n int) []api.Pt {
	var all []api.Pt
	for i, p := range l {
		all = append(all, shaped(p, n+3*i))
	}
	return all
}

// plane is a map of the plane that keeps lines, and what is between what on
// them; some bring left to right.
type plane struct{ xx, xy, x, yx, yy, y *big.Rat }

// planes are maps to points of all sorts: the first leaves all as it is.
func planes() []plane {
	var l []plane
	for _, s := range [][6]string{
		{"1", "0", "0", "0", "1", "0"},
		{"0", "-1", "2", "1", "0", "-3"},
		{"2", "1", "1/2", "1", "-3", "-1/3"},
		{"18446744073709551616", "-1/3", "340282366920938463463374607431768211457/7", "-9223372036854775807/5", "1e40", "-1e41"},
		{"1e-40", "-3e-41", "22/7", "-1/31415926535897932384626433832795028841971693993751", "7e-60", "18446744073709551615"},
	} {
		l = append(l, plane{number(s[0]), number(s[1]), number(s[2]), number(s[3]), number(s[4]), number(s[5])})
	}
	return l
}

// of is where m brings (x, y).
func (m plane) of(x, y int64) point {
	u, v := big.NewRat(x, 1), big.NewRat(y, 1)
	return point{sum(m.x, sum(times(m.xx, u), times(m.xy, v))), sum(m.y, sum(times(m.yx, u), times(m.yy, v)))}
}

// all are where m brings points of whole numbers, X and Y by turns.
func (m plane) all(xy []int64) []point {
	var l []point
	for i := 0; i < len(xy); i += 2 {
		l = append(l, m.of(xy[i], xy[i+1]))
	}
	return l
}

// grid are the points that m makes of those of w by h whole numbers.
func (m plane) grid(w, h int64) []point {
	var l []point
	for x := range w {
		for y := range h {
			l = append(l, m.of(x, y))
		}
	}
	return l
}
