package halve_test

import (
	"math/big"
	"slices"
	"strings"
	"testing"

	"gesso/api"
	"gesso/halve"
	"gesso/nat"
	"gesso/rat"
)

// number is what s tells, as -22/7 or 3e-20.
func number(s string) *big.Rat {
	v, ok := new(big.Rat).SetString(s)
	if !ok {
		panic("the test itself")
	}
	return v
}

// numbers are those of a text, which stand apart by spaces.
func numbers(s string) []*big.Rat {
	var l []*big.Rat
	for _, f := range strings.Fields(s) {
		l = append(l, number(f))
	}
	return l
}

// A control is a control point by another implementation of fractions: where
// it is times its weight, and the weight.
type control [3]*big.Rat

// controls are those of a text of X, Y and W, each with a ; behind.
func controls(s string) []control {
	var l []control
	for _, f := range strings.Split(s, ";") {
		if v := numbers(f); len(v) == 3 {
			l = append(l, control(v))
		} else if len(v) != 0 {
			panic("the test itself")
		}
	}
	return l
}

// part is the part of the curve from a to b, by how much each control point of
// the whole weighs in each of its own: as many ways as lead there, with so
// many steps by a and the others by b.
func part(l []control, a, b *big.Rat) []control {
	n := len(l) - 1
	var all []control
	for i := range l {
		share := []*big.Rat{big.NewRat(1, 1)}
		for k := range n {
			if k < n-i {
				share = stepped(share, a)
			} else {
				share = stepped(share, b)
			}
		}
		all = append(all, weighed(l, share))
	}
	return all
}

// stepped is how much each weighs after one more step by t, which is to the
// next one by t, and to itself by what t lacks to 1.
func stepped(share []*big.Rat, t *big.Rat) []*big.Rat {
	lacks := new(big.Rat).Sub(big.NewRat(1, 1), t)
	next := []*big.Rat{new(big.Rat)}
	for i, v := range share {
		next[i].Add(next[i], new(big.Rat).Mul(v, lacks))
		next = append(next, new(big.Rat).Mul(v, t))
	}
	return next
}

// weighed are all of l together, each by its share.
func weighed(l []control, share []*big.Rat) control {
	all := control{new(big.Rat), new(big.Rat), new(big.Rat)}
	for i, c := range l {
		for k, v := range c {
			all[k].Add(all[k], new(big.Rat).Mul(v, share[i]))
		}
	}
	return all
}

// parts are the parts of so many cuts, from left to right.
func parts(l []control, deep int) [][]control {
	var all [][]control
	n := int64(1) << deep
	for i := range n {
		all = append(all, part(l, big.NewRat(i, n), big.NewRat(i+1, n)))
	}
	return all
}

func given(l []control) []api.Hom {
	var all []api.Hom
	for _, c := range l {
		all = append(all, api.Hom{X: fraction(c[0]), Y: fraction(c[1]), W: fraction(c[2])})
	}
	return all
}

func fraction(v *big.Rat) api.Rat {
	return api.Rat{P: api.Int{Neg: v.Sign() < 0, N: limbs(v.Num())}, Q: limbs(v.Denom())}
}

func limbs(v *big.Int) []uint64 {
	var l []uint64
	for _, w := range v.Bits() {
		l = append(l, uint64(w))
	}
	return l
}

// numbersOf are all numbers of l.
func numbersOf(l []api.Hom) []api.Rat {
	var all []api.Rat
	for _, h := range l {
		all = append(all, h.X, h.Y, h.W)
	}
	return all
}

// is tells whether all numbers of l are good and it is want.
func is(l []api.Hom, want []control) bool {
	return slices.IndexFunc(numbersOf(l), func(a api.Rat) bool { return !rat.Good(a) }) < 0 && text(l) == text(given(want))
}

// areParts tells whether all of m are, in their order.
func areParts(m [][]api.Hom, want [][]control) bool {
	return slices.EqualFunc(m, want, is)
}

func text(l []api.Hom) string {
	s := ""
	for _, h := range l {
		s += rat.Text(h.X) + " " + rat.Text(h.Y) + " " + rat.Text(h.W) + "; "
	}
	return s
}

// texts are the parts' texts, each on a line.
func texts(m [][]api.Hom) string {
	var l []string
	for _, part := range m {
		l = append(l, text(part))
	}
	return strings.Join(l, "\n")
}

// forms are a, which is good, and what is not good but comes to a.
func forms(a api.Rat) []api.Rat {
	l := []api.Rat{a}
	for _, c := range [][]uint64{{1}, {2}, {255}, {0, 1}, {7, 1 << 63}} {
		upper, lower := nat.Mul(a.P.N, c), nat.Mul(a.Q, c)
		l = append(l, with(a, append(upper, 0), append(lower, 0, 0)), with(a, upper, lower))
	}
	if slices.Equal(a.Q, []uint64{1}) {
		l = append(l, with(a, a.P.N, nil), with(a, a.P.N, []uint64{0}), with(a, append(slices.Clone(a.P.N), 0), []uint64{0, 0}))
	}
	if rat.Sign(a) == 0 {
		for _, b := range l[:len(l):len(l)] {
			b.P.Neg = true
			l = append(l, b)
		}
	}
	return l
}

func with(a api.Rat, upper, lower []uint64) api.Rat {
	return api.Rat{P: api.Int{Neg: a.P.Neg, N: upper}, Q: lower}
}

// shaped is l, each number in another form, beginning with that number.
func shaped(l []api.Hom, n int) []api.Hom {
	formed := func(a api.Rat, n int) api.Rat {
		all := forms(a)
		return all[n%len(all)]
	}
	var all []api.Hom
	for i, h := range l {
		all = append(all, api.Hom{X: formed(h.X, n+i), Y: formed(h.Y, 2*n+3*i+1), W: formed(h.W, 3*n+i+5)})
	}
	return all
}

// plain are so many control points of weight 1.
func plain(n int) []api.Hom {
	var l []api.Hom
	for i := range int64(n) {
		l = append(l, api.Hom{X: rat.Of(i, 1), Y: rat.Of(i*i, 3), W: rat.Of(1, 1)})
	}
	return l
}

// badLists are control points that are no curve's: too few, too many, and of
// each count and at each place weights that are not above 0.
func badLists() [][]api.Hom {
	l := [][]api.Hom{nil, {}, plain(5)[:0], plain(1)}
	for _, n := range []int{5, 6, 7, 8, 16, 255, 256, 258, 259, 260} {
		l = append(l, plain(n))
	}
	for n := 1; n < 6; n++ {
		l = append(l, make([]api.Hom, n))
		for k := range n {
			for _, w := range noWeights() {
				bad := plain(n)
				bad[k].W = w
				l = append(l, bad)
			}
		}
	}
	return append(l, allBelow()...)
}

// noWeights are 0 and numbers below it, in forms that are good and others.
func noWeights() []api.Rat {
	l := []api.Rat{{}, {Q: []uint64{5}}, {P: api.Int{Neg: true}}, {P: api.Int{Neg: true, N: []uint64{0, 0}}, Q: []uint64{0}}, {P: api.Int{Neg: true, N: []uint64{3}}}}
	for _, w := range numbers("0 -1 -1/64 -1e-60 -1e60 -18446744073709551616") {
		l = append(l, forms(fraction(w))...)
	}
	return l
}

// allBelow are curves but for their weights, all of which are below 0.
func allBelow() [][]api.Hom {
	var all [][]api.Hom
	for n := 2; n < 5; n++ {
		l := plain(n)
		for i, h := range l {
			l[i] = api.Hom{X: rat.Neg(h.X), Y: rat.Neg(h.Y), W: rat.Neg(h.W)}
		}
		all = append(all, l)
	}
	return all
}

// dice tells numbers that look thrown and are the same in each run.
type dice uint64

func (d *dice) next() uint64 {
	*d = *d*6364136223846793005 + 1442695040888963407
	z := uint64(*d)
	return (z ^ z>>31) * 0x94d049bb133111eb
}

// thrown is a thrown number from low to high, by one from 1 to 20.
func (d *dice) thrown(low, high int64) *big.Rat {
	return big.NewRat(low+int64(d.next()>>1%uint64(high-low+1)), 1+int64(d.next()>>1%20))
}

// thrownCurve has so many control points, with weights above 0.
func (d *dice) thrownCurve(n int) []control {
	var l []control
	for range n {
		l = append(l, control{d.thrown(-90, 90), d.thrown(-90, 90), d.thrown(1, 30)})
	}
	return l
}

// curves are control points, two, three and four: all weights 1, weights that
// differ, all points the same, numbers of many digits.
func curves() [][]control {
	var l [][]control
	for _, s := range []string{
		"0 0 1; 1 1 1",
		"0 0 1; 0 0 1",
		"1 2 1; -3 1/2 5",
		"1/3 -1/7 1/64; 22/7 0 64",
		"0 0 1; 1 2 1; 2 0 1",
		"1 0 1; 1 1 1; 0 2 2",
		"1 0 1; 1/2 1/2 1/2; 0 1 1",
		"3 -2 1; 3 -2 1; 3 -2 1",
		"3 -2 1; 6 -4 2; 1 -2/3 1/3",
		"5 5 1; 0 0 4096; -5 5 1",
		"5 5 1/1000; 0 0 1; -5 5 1000",
		"0 0 1; 0 1 1; 1 1 1; 1 0 1",
		"0 0 1; 3 0 1; -2 0 1; 1 0 1",
		"0 0 1; 0 2 2; 3 3 3; 4 0 4",
		"-1/2 7 5/3; 0 0 1/7; 22/7 -13/11 1; 1/64 1/65536 2",
		"0 0 1; 0 0 1; 0 0 1; 0 0 1",
		"18446744073709551615 -18446744073709551616 18446744073709551617; 1 1 1/18446744073709551616; -1e40 1e-40 340282366920938463463374607431768211457/18446744073709551615",
		"1e-60 -1e60 1e40; 17/31415926535897932384626433832795028841971693993751 1 1e-40; 9223372036854775808 -9223372036854775807/5 1; 22/7 0 18446744073709551616",
		"1e60 1e60 1e-60; -1e60 1e-60 1e60",
		"1e400 -1e-400 1e300; 1/3 1e-300 1e-400; 22/7 -1e400 1",
	} {
		l = append(l, controls(s))
	}
	return l
}

// deeps are how many times all may be cut, noDeeps how many they may not.
var (
	deeps   = []int{0, 1, 2, 3, 4, 5, 6, 7, 8, 9, 10}
	noDeeps = []int{-1, 11, -2, -10, -11, 12, 16, 31, 32, 62, 63, 64, 65, -63, -64, 256, 266, -256, 1 << 16, 1 << 32, 1<<32 + 3, -1<<32 + 1, -1 << 63, -1<<63 + 5, 1<<63 - 1}
)

// check holds what Cut and Many of deep tell for l, which is in some form,
// against what the document asks for of c, which l comes to.
func check(t *testing.T, c []control, l []api.Hom, deep int) {
	t.Helper()
	want := parts(c, 1)
	if a, b, e := halve.Cut(l); e != api.OK || !is(a, want[0]) || !is(b, want[1]) {
		t.Error("Cut", text(l), text(a), text(b), e)
	}
	if m, e := halve.Many(l, deep); e != api.OK || !areParts(m, parts(c, deep)) {
		t.Error("Many", text(l), deep, texts(m), e)
	}
}
