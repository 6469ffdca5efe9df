package flat_test

import (
	"math/big"
	"slices"
	"strings"
	"testing"

	"gesso/api"
	"gesso/flat"
	"gesso/nat"
	"gesso/rat"
)

// number is what s tells, as -22/7 or 3e-20.
func number(s string) *big.Rat {
	v, ok := new(big.Rat).SetString(s)
	if !ok {
		panic("the test itself")
	}
	return v
}

// numbers are those of a text, which stand apart by spaces.
func numbers(s string) []*big.Rat {
	var l []*big.Rat
	for _, f := range strings.Fields(s) {
		l = append(l, number(f))
	}
	return l
}

// A control is a control point by another implementation of fractions: where
// it is times its weight, and the weight.
type control [3]*big.Rat

// controls are those of a text of X, Y and W, each with a ; behind.
func controls(s string) []control {
	var l []control
	for _, f := range strings.Split(s, ";") {
		if v := numbers(f); len(v) == 3 {
			l = append(l, control(v))
		} else if len(v) != 0 {
			panic("the test itself")
		}
	}
	return l
}

func given(l []control) []api.Hom {
	var all []api.Hom
	for _, c := range l {
		all = append(all, api.Hom{X: fraction(c[0]), Y: fraction(c[1]), W: fraction(c[2])})
	}
	return all
}

func fraction(v *big.Rat) api.Rat {
	return api.Rat{P: api.Int{Neg: v.Sign() < 0, N: limbs(v.Num())}, Q: limbs(v.Denom())}
}

func limbs(v *big.Int) []uint64 {
	var l []uint64
	for _, w := range v.Bits() {
		l = append(l, uint64(w))
	}
	return l
}

// numbersOf are all numbers of l.
func numbersOf(l []api.Hom) []api.Rat {
	var all []api.Rat
	for _, h := range l {
		all = append(all, h.X, h.Y, h.W)
	}
	return all
}

func text(l []api.Hom) string {
	s := ""
	for _, h := range l {
		s += rat.Text(h.X) + " " + rat.Text(h.Y) + " " + rat.Text(h.W) + "; "
	}
	return s
}

// forms are a, which is good, and what is not good but comes to a.
func forms(a api.Rat) []api.Rat {
	l := []api.Rat{a}
	for _, c := range [][]uint64{{1}, {2}, {255}, {0, 1}, {7, 1 << 63}} {
		upper, lower := nat.Mul(a.P.N, c), nat.Mul(a.Q, c)
		l = append(l, with(a, append(upper, 0), append(lower, 0, 0)), with(a, upper, lower))
	}
	if slices.Equal(a.Q, []uint64{1}) {
		l = append(l, with(a, a.P.N, nil), with(a, a.P.N, []uint64{0}), with(a, append(slices.Clone(a.P.N), 0), []uint64{0, 0}))
	}
	if rat.Sign(a) == 0 {
		for _, b := range l[:len(l):len(l)] {
			b.P.Neg = true
			l = append(l, b)
		}
	}
	return l
}

func with(a api.Rat, upper, lower []uint64) api.Rat {
	return api.Rat{P: api.Int{Neg: a.P.Neg, N: upper}, Q: lower}
}

// shaped is l, each number in another form, beginning with that number.
func shaped(l []api.Hom, n int) []api.Hom {
	formed := func(a api.Rat, n int) api.Rat {
		all := forms(a)
		return all[n%len(all)]
	}
	var all []api.Hom
	for i, h := range l {
		all = append(all, api.Hom{X: formed(h.X, n+i), Y: formed(h.Y, 2*n+3*i+1), W: formed(h.W, 3*n+i+5)})
	}
	return all
}

// plain are so many control points of weight 1.
func plain(n int) []api.Hom {
	var l []api.Hom
	for i := range int64(n) {
		l = append(l, api.Hom{X: rat.Of(i, 1), Y: rat.Of(i*i, 3), W: rat.Of(1, 1)})
	}
	return l
}

// badLists are control points that are no curve's: too few, too many, and of
// each count and at each place weights that are not above 0.
func badLists() [][]api.Hom {
	l := [][]api.Hom{nil, {}, plain(5)[:0], plain(1)}
	for _, n := range []int{5, 6, 7, 8, 16, 255, 256, 258, 259, 260} {
		l = append(l, plain(n))
	}
	for n := 1; n < 6; n++ {
		l = append(l, make([]api.Hom, n))
		for k := range n {
			for _, w := range noWeights() {
				bad := plain(n)
				bad[k].W = w
				l = append(l, bad)
			}
		}
	}
	return append(l, allBelow()...)
}

// noWeights are 0 and numbers below it, in forms that are good and others.
func noWeights() []api.Rat {
	l := []api.Rat{{}, {Q: []uint64{5}}, {P: api.Int{Neg: true}}, {P: api.Int{Neg: true, N: []uint64{0, 0}}, Q: []uint64{0}}, {P: api.Int{Neg: true, N: []uint64{3}}}}
	for _, w := range numbers("0 -1 -1/64 -1e-60 -1e60 -18446744073709551616") {
		l = append(l, forms(fraction(w))...)
	}
	return l
}

// allBelow are curves but for their weights, all of which are below 0.
func allBelow() [][]api.Hom {
	var all [][]api.Hom
	for n := 2; n < 5; n++ {
		l := plain(n)
		for i, h := range l {
			l[i] = api.Hom{X: rat.Neg(h.X), Y: rat.Neg(h.Y), W: rat.Neg(h.W)}
		}
		all = append(all, l)
	}
	return all
}

// dice tells numbers that look thrown and are the same in each run.
type dice uint64

func (d *dice) next() uint64 {
	*d = *d*6364136223846793005 + 1442695040888963407
	z := uint64(*d)
	return (z ^ z>>31) * 0x94d049bb133111eb
}

// thrown is a thrown number from low to high, by one from 1 to 20.
func (d *dice) thrown(low, high int64) *big.Rat {
	return big.NewRat(low+int64(d.next()>>1%uint64(high-low+1)), 1+int64(d.next()>>1%20))
}

// thrownCurve has so many control points, with weights above 0.
func (d *dice) thrownCurve(n int) []control {
	var l []control
	for range n {
		l = append(l, control{d.thrown(-90, 90), d.thrown(-90, 90), d.thrown(1, 30)})
	}
	return l
}

// curves are control points, two, three and four: all weights 1, weights that
// differ, all points the same, both ends the same, control points on the chord,
// beyond its ends and beside it, numbers of many digits.
func curves() [][]control {
	var l [][]control
	for _, s := range []string{
		"0 0 1; 1 1 1",
		"0 0 1; 0 0 1",
		"1 2 1; -3 1/2 5",
		"0 0 1; 1 2 1; 2 0 1",
		"0 0 1; 1 2 2; 2 0 1",
		"1 0 1; 1 1 1; 0 2 2",
		"5 5 1; 0 0 4096; -5 5 1",
		"5 5 1/1000; 0 0 1; -5 5 1000",
		"3 -2 1; 3 -2 1; 3 -2 1",
		"3 -2 1; 6 -4 2; 1 -2/3 1/3",
		"3 -2 1; 1 0 1; 6 -4 2",
		"0 0 1; 5 0 1; 2 0 1",
		"0 0 1; -5 1 1; 2 0 1",
		"0 0 1; 1/3 1/3 1; 1 1 1",
		"0 0 1; 0 1 1; 1 1 1; 1 0 1",
		"0 0 1; 3 0 1; -2 0 1; 1 0 1",
		"0 0 1; 1 -3 1; 2 2 1; 3 0 1",
		"0 0 1; 1 -2 1; 2 3 1; 3 0 1",
		"0 0 1; 0 2 2; 3 3 3; 4 0 4",
		"-1/2 7 5/3; 0 0 1/7; 22/7 -13/11 1; 1/64 1/65536 2",
		"0 0 1; 0 0 1; 0 0 1; 0 0 1",
		"1 1 1; 4 5 1; 1 -2 1; 2 2 2",
		"0 0 1; 1 1 1; 4 4 2; 3 3 1",
		"18446744073709551615 -18446744073709551616 18446744073709551617; 1 1 1/18446744073709551616; -1e40 1e-40 340282366920938463463374607431768211457/18446744073709551615",
		"1e-60 -1e60 1e40; 17/31415926535897932384626433832795028841971693993751 1 1e-40; 9223372036854775808 -9223372036854775807/5 1; 22/7 0 18446744073709551616",
		"1e60 1e60 1e-60; -1e60 1e-60 1e60",
		"1e400 -1e-400 1e300; 1/3 1e-300 1e-400; 22/7 -1e400 1",
	} {
		l = append(l, controls(s))
	}
	return l
}

// A point is where a control point is, by another implementation of fractions.
type point [2]*big.Rat

func placeOf(c control) point {
	return point{new(big.Rat).Quo(c[0], c[2]), new(big.Rat).Quo(c[1], c[2])}
}

// mixed is p and t times the way to q.
func mixed(p, q point, t *big.Rat) point {
	var all point
	for i := range all {
		way := new(big.Rat).Sub(q[i], p[i])
		all[i] = way.Add(way.Mul(way, t), p[i])
	}
	return all
}

// along is how far the way from a to p goes along that from a to b, times the
// length of that one.
func along(p, a, b point) *big.Rat {
	all := new(big.Rat)
	for i := range a {
		u, v := new(big.Rat).Sub(p[i], a[i]), new(big.Rat).Sub(b[i], a[i])
		all.Add(all, u.Mul(u, v))
	}
	return all
}

// fromSegment is the square of how far p is from the segment from a to b, by
// the point of the segment that is the nearest one.
func fromSegment(p, a, b point) *big.Rat {
	t, one := new(big.Rat), big.NewRat(1, 1)
	if whole := along(b, a, b); whole.Sign() > 0 {
		t.Quo(along(p, a, b), whole)
	}
	if t.Sign() < 0 {
		t.SetInt64(0)
	}
	if t.Cmp(one) > 0 {
		t = one
	}
	near := mixed(a, b, t)
	return along(p, near, p)
}

// gapOf is the greatest square of how far a control point is from the segment
// between the ends.
func gapOf(l []control) *big.Rat {
	most := new(big.Rat)
	for _, c := range l {
		far := fromSegment(placeOf(c), placeOf(l[0]), placeOf(l[len(l)-1]))
		if far.Cmp(most) > 0 {
			most = far
		}
	}
	return most
}

// flatBy tells whether it is flat by tol, whose gap is that.
func flatBy(gap, tol *big.Rat) bool {
	return tol.Sign() >= 0 && new(big.Rat).Mul(tol, tol).Cmp(gap) >= 0
}

// roots are two numbers of which the first is gap's root or just below it, the
// second one just above it.
func roots(gap *big.Rat) (low, high *big.Rat) {
	lower := new(big.Int).Lsh(gap.Denom(), 80)
	square := new(big.Int).Mul(gap.Num(), gap.Denom())
	upper := square.Sqrt(square.Lsh(square, 160))
	low = new(big.Rat).SetFrac(upper, lower)
	return low, new(big.Rat).SetFrac(upper.Add(upper, big.NewInt(1)), lower)
}

// tolerances are below 0, 0, and on both sides of gap's root, near to it and
// far.
func tolerances(gap *big.Rat) []*big.Rat {
	low, high := roots(gap)
	l := append(numbers("0 -1 1 1/1024 -1/1024 1e-60 -1e-60 1e500 -1e500"), low, high)
	for _, step := range numbers("1e-90 1e-10 1/3 1") {
		l = append(l, new(big.Rat).Sub(low, step), new(big.Rat).Add(high, step))
	}
	return append(l, new(big.Rat).Neg(low), new(big.Rat).Neg(high))
}

// is tells whether a is good and is want.
func is(a api.Rat, want *big.Rat) bool {
	return rat.Good(a) && rat.Text(a) == want.RatString()
}

// check holds what Gap and Is tell for l, which is in some form, against what
// the document asks for of c, which l comes to.
func check(t *testing.T, c []control, l []api.Hom) {
	t.Helper()
	want := gapOf(c)
	if gap, e := flat.Gap(l); e != api.OK || !is(gap, want) {
		t.Error("Gap", text(l), rat.Text(gap), want, e)
	}
	for i, tol := range tolerances(want) {
		all := forms(fraction(tol))
		if flat.Is(l, all[i%len(all)]) != flatBy(want, tol) || flat.Is(l, all[0]) != flatBy(want, tol) {
			t.Error("Is", text(l), tol, flatBy(want, tol))
		}
	}
}

// refused holds that l is no curve: it has no gap, and is flat by nothing.
func refused(t *testing.T, l []api.Hom) {
	t.Helper()
	if gap, e := flat.Gap(l); gap.P.Neg || len(gap.P.N)+len(gap.Q) != 0 || e != api.ErrForm {
		t.Error("Gap", len(l), text(l), rat.Text(gap), e)
	}
	for _, tol := range numbers("-1 0 1e-60 1 1e60") {
		if flat.Is(l, fraction(tol)) {
			t.Error("Is", len(l), text(l), tol)
		}
	}
}
