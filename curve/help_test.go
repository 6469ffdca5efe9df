package curve_test

import (
	"math"
	"math/big"
	"slices"
	"strings"

	"gesso/api"
	"gesso/nat"
	"gesso/rat"
)

// number is what s tells, as -22/7 or 3e-20.
func number(s string) *big.Rat {
	v, ok := new(big.Rat).SetString(s)
	if !ok {
		panic("the test itself")
	}
	return v
}

// numbers are those of a text, which stand apart by spaces.
func numbers(s string) []*big.Rat {
	var l []*big.Rat
	for _, f := range strings.Fields(s) {
		l = append(l, number(f))
	}
	return l
}

func sum(l ...*big.Rat) *big.Rat {
	all := new(big.Rat)
	for _, v := range l {
		all.Add(all, v)
	}
	return all
}

func times(l ...*big.Rat) *big.Rat {
	all := big.NewRat(1, 1)
	for _, v := range l {
		all.Mul(all, v)
	}
	return all
}

// A control is a control point by another implementation of fractions: where
// it is times its weight, and the weight.
type control struct{ x, y, w *big.Rat }

// controls are those of a text of X, Y and W, each with a ; behind.
func controls(s string) []control {
	var l []control
	for _, f := range strings.Split(s, ";") {
		if v := numbers(f); len(v) == 3 {
			l = append(l, control{v[0], v[1], v[2]})
		} else if len(v) != 0 {
			panic("the test itself")
		}
	}
	return l
}

func (c control) given() api.Hom {
	return api.Hom{X: fraction(c.x), Y: fraction(c.y), W: fraction(c.w)}
}

func given(l []control) []api.Hom {
	var all []api.Hom
	for _, c := range l {
		all = append(all, c.given())
	}
	return all
}

// at is where the curve is at t, by how much each control point weighs there:
// so many ways lead to it, each with its share of t and of what t lacks to 1.
func at(l []control, t *big.Rat) (x, y *big.Rat) {
	lacks := sum(big.NewRat(1, 1), times(big.NewRat(-1, 1), t))
	all := control{new(big.Rat), new(big.Rat), new(big.Rat)}
	n := int64(len(l) - 1)
	for i, c := range l {
		share := new(big.Rat).SetInt(new(big.Int).Binomial(n, int64(i)))
		for k := range n {
			if k < int64(i) {
				share.Mul(share, t)
			} else {
				share.Mul(share, lacks)
			}
		}
		all.x.Add(all.x, times(share, c.x))
		all.y.Add(all.y, times(share, c.y))
		all.w.Add(all.w, times(share, c.w))
	}
	return all.x.Quo(all.x, all.w), all.y.Quo(all.y, all.w)
}

// moved is where the map of A to F brings (x, y), of which it is w times.
func moved(m []*big.Rat, x, y, w *big.Rat) control {
	return control{
		times(w, sum(times(m[0], x), times(m[2], y), m[4])),
		times(w, sum(times(m[1], x), times(m[3], y), m[5])),
		w,
	}
}

// drawn are the control points that the document asks for.
func drawn(from []*big.Rat, s api.Seg, m []*big.Rat) []control {
	one, part := big.NewRat(1, 1), func(v int64) *big.Rat { return big.NewRat(v, 64) }
	l := []control{moved(m, from[0], from[1], one)}
	weights := map[int][]*big.Rat{
		api.Line:  {one},
		api.Quad:  {one, one},
		api.Cubic: {one, one, one},
		api.Conic: {part(s.W), one},
	}
	for i, w := range weights[s.Kind] {
		l = append(l, moved(m, part(s.V[2*i]), part(s.V[2*i+1]), w))
	}
	return l
}

func givenMap(m []*big.Rat) api.Mat {
	return api.Mat{A: fraction(m[0]), B: fraction(m[1]), C: fraction(m[2]), D: fraction(m[3]), E: fraction(m[4]), F: fraction(m[5])}
}

// point is what the program has as (x, y).
func point(x, y *big.Rat) api.Pt { return api.Pt{X: fraction(x), Y: fraction(y)} }

func fraction(v *big.Rat) api.Rat {
	return api.Rat{P: api.Int{Neg: v.Sign() < 0, N: limbs(v.Num())}, Q: limbs(v.Denom())}
}

func limbs(v *big.Int) []uint64 {
	var l []uint64
	for _, w := range v.Bits() {
		l = append(l, uint64(w))
	}
	return l
}

// is tells whether a is good and is want.
func is(a api.Rat, want *big.Rat) bool {
	return rat.Good(a) && rat.Text(a) == want.RatString()
}

// isPoint tells whether both parts of p are good and it is (x, y).
func isPoint(p api.Pt, x, y *big.Rat) bool {
	return is(p.X, x) && is(p.Y, y)
}

// isList tells whether all numbers of l are good and it is want.
func isList(l []api.Hom, want []control) bool {
	return slices.EqualFunc(l, want, func(h api.Hom, c control) bool {
		return is(h.X, c.x) && is(h.Y, c.y) && is(h.W, c.w)
	})
}

// none tells whether p is empty, as it is told beside an error.
func none(p api.Pt) bool {
	for _, a := range []api.Rat{p.X, p.Y} {
		if a.P.Neg || len(a.P.N)+len(a.Q) != 0 {
			return false
		}
	}
	return true
}

func text(l []api.Hom) string {
	s := ""
	for _, h := range l {
		s += rat.Text(h.X) + " " + rat.Text(h.Y) + " " + rat.Text(h.W) + "; "
	}
	return s
}

func textPoint(p api.Pt) string { return rat.Text(p.X) + " " + rat.Text(p.Y) }

// forms are a, which is good, and what is not good but comes to a.
func forms(a api.Rat) []api.Rat {
	l := []api.Rat{a}
	for _, c := range [][]uint64{{1}, {2}, {255}, {0, 1}, {7, 1 << 63}} {
		upper, lower := nat.Mul(a.P.N, c), nat.Mul(a.Q, c)
		l = append(l, with(a, append(upper, 0), append(lower, 0, 0)), with(a, upper, lower))
	}
	if slices.Equal(a.Q, []uint64{1}) {
		l = append(l, with(a, a.P.N, nil), with(a, a.P.N, []uint64{}), with(a, a.P.N, []uint64{0}), with(a, append(slices.Clone(a.P.N), 0), []uint64{0, 0}))
	}
	if rat.Sign(a) == 0 {
		for _, b := range l[:len(l):len(l)] {
			b.P.Neg = true
			l = append(l, b)
		}
	}
	return l
}

func with(a api.Rat, upper, lower []uint64) api.Rat {
	return api.Rat{P: api.Int{Neg: a.P.Neg, N: upper}, Q: lower}
}

// formed is a in the form of that number.
func formed(a api.Rat, n int) api.Rat {
	l := forms(a)
	return l[n%len(l)]
}

func shaped(p api.Pt, n int) api.Pt {
	return api.Pt{X: formed(p.X, n), Y: formed(p.Y, 3*n+2)}
}

func shapedMap(m api.Mat, n int) api.Mat {
	return api.Mat{A: formed(m.A, n), B: formed(m.B, 2*n+1), C: formed(m.C, n+3), D: formed(m.D, 3*n+4), E: formed(m.E, n/2+7), F: formed(m.F, 5*n+2)}
}

// shapedList is l, each number in another form, beginning with that number.
func shapedList(l []api.Hom, n int) []api.Hom {
	var all []api.Hom
	for i, h := range l {
		all = append(all, api.Hom{X: formed(h.X, n+i), Y: formed(h.Y, 2*n+3*i+1), W: formed(h.W, 3*n+i+5)})
	}
	return all
}

// dice tells numbers that look thrown and are the same in each run.
type dice uint64

func (d *dice) next() uint64 {
	*d = *d*6364136223846793005 + 1442695040888963407
	z := uint64(*d)
	return (z ^ z>>31) * 0x94d049bb133111eb
}

// of is one of l.
func of[T any](d *dice, l []T) T { return l[d.next()>>1%uint64(len(l))] }

// curveKinds are those of which Of tells control points, otherKinds are not.
var (
	curveKinds = []int{api.Line, api.Quad, api.Cubic, api.Conic}
	otherKinds = []int{api.Move, api.Close, 0, -1, 7, 8, 64, 256 + api.Line, 1<<32 + api.Quad, -api.Cubic, math.MinInt, math.MaxInt}
)

// weights are those that a part of Conic may have, the least one first.
var weights = []int64{1, 2, 32, 63, 64, 65, 128, 4095, 4096, 4097, 1 << 31, 1<<40 + 7, math.MaxInt64 - 1, math.MaxInt64}

// noWeights are those that it may not have.
var noWeights = []int64{0, -1, -2, -63, -64, -65, -4096, -1 << 40, math.MinInt64 + 1, math.MinInt64}

// coords are numbers of a part, those beside a whole one and the greatest
// among them.
var coords = []int64{0, 1, -1, 32, 63, 64, 65, -63, -64, -65, 127, 128, 6400, api.MaxCoord - 1, 1 - api.MaxCoord, api.MaxCoord, -api.MaxCoord, math.MaxInt64, math.MinInt64}

// places are where a curve may begin: whole points, others, some whose numbers
// have many digits.
func places() [][]*big.Rat {
	var l [][]*big.Rat
	for _, s := range []string{
		"0 0", "1 2", "-3 0", "0 7", "1/2 -1/3", "63/64 65/64", "1/64 -1/65536", "22/7 -13/11",
		"2147483647/64 -2147483647/64", "18446744073709551615 18446744073709551616", "340282366920938463463374607431768211457/18446744073709551615 -1e40", "1e-60 -17/31415926535897932384626433832795028841971693993751",
	} {
		l = append(l, numbers(s))
	}
	return l
}

// maps are those of A to F; the first one leaves all points, the ones that
// follow move them, turn, mirror, stretch them, and have no inverse.
func maps() [][]*big.Rat {
	var l [][]*big.Rat
	for _, s := range []string{
		"1 0 0 1 0 0",
		"1 0 0 1 3 -2",
		"1 0 0 1 -1/64 1/3",
		"0 1 -1 0 0 0",
		"0 1 -1 0 5 7",
		"3/5 4/5 -4/5 3/5 1 2",
		"-1 0 0 1 5 0",
		"2 0 0 1/3 0 0",
		"1 2 3 4 5 6",
		"1 0 -5/7 1 0 9",
		"0 0 0 0 0 0",
		"0 0 0 0 5 -7/3",
		"1 2 2 4 1/64 1",
		"0 0 1 2 1 1",
		"7 0 0 0 0 0",
		"18446744073709551616 -1/3 340282366920938463463374607431768211457/7 -9223372036854775807/5 1e40 -1e41",
		"1e-40 -3e-41 22/7 -1/31415926535897932384626433832795028841971693993751 7e-60 18446744073709551615",
	} {
		l = append(l, numbers(s))
	}
	return l
}

// curves are control points, two, three and four: all weights 1, weights that
// differ, all points the same, numbers of many digits.
func curves() [][]control {
	var l [][]control
	for _, s := range []string{
		"0 0 1; 1 1 1",
		"0 0 1; 0 0 1",
		"1 2 1; -3 1/2 5",
		"1/3 -1/7 1/64; 22/7 0 64",
		"0 0 1; 1 2 1; 2 0 1",
		"1 0 1; 1 1 1; 0 2 2",
		"1 0 1; 1/2 1/2 1/2; 0 1 1",
		"3 -2 1; 3 -2 1; 3 -2 1",
		"3 -2 1; 6 -4 2; 1 -2/3 1/3",
		"5 5 1; 0 0 4096; -5 5 1",
		"5 5 1/1000; 0 0 1; -5 5 1000",
		"0 0 1; 0 1 1; 1 1 1; 1 0 1",
		"0 0 1; 3 0 1; -2 0 1; 1 0 1",
		"0 0 1; 0 2 2; 3 3 3; 4 0 4",
		"-1/2 7 5/3; 0 0 1/7; 22/7 -13/11 1; 1/64 1/65536 2",
		"0 0 1; 0 0 1; 0 0 1; 0 0 1",
		"18446744073709551615 -18446744073709551616 18446744073709551617; 1 1 1/18446744073709551616; -1e40 1e-40 340282366920938463463374607431768211457/18446744073709551615",
		"1e-60 -1e60 1e40; 17/31415926535897932384626433832795028841971693993751 1 1e-40; 9223372036854775808 -9223372036854775807/5 1; 22/7 0 18446744073709551616",
		"1e60 1e60 1e-60; -1e60 1e-60 1e60",
	} {
		l = append(l, controls(s))
	}
	return l
}

// shares are numbers from 0 to 1.
func shares() []*big.Rat {
	return numbers("0 1 1/2 1/3 2/3 1/4 3/4 1/64 63/64 22/71 1e-40 1/18446744073709551616 18446744073709551615/18446744073709551616 31415926535897932384626433832795028841971693993751/100000000000000000000000000000000000000000000000000")
}

// noShares are numbers below 0 and above 1, some of them by very little.
func noShares() []*big.Rat {
	return numbers("-1 2 -1/2 3/2 -1/64 65/64 -1e-60 18446744073709551617/18446744073709551616 -1/18446744073709551616 1e40 -1e40 -18446744073709551616 1000001/1000000")
}
