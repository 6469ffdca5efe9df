package mat_test

import (
	"math/big"
	"slices"
	"strings"

	"gesso/api"
	"gesso/nat"
	"gesso/rat"
)

// number is what s tells, as -22/7 or 3e-20.
func number(s string) *big.Rat {
	v, ok := new(big.Rat).SetString(s)
	if !ok {
		panic("the test itself")
	}
	return v
}

// numbers are those of a text, which stand apart by spaces.
func numbers(s string) []*big.Rat {
	var l []*big.Rat
	for _, f := range strings.Fields(s) {
		l = append(l, number(f))
	}
	return l
}

// A square is a map by another implementation: three rows of three, the last
// of which is 0 0 1.
type square [3][3]*big.Rat

// squareOf is the map of those numbers, A to F.
func squareOf(l []*big.Rat) square {
	o, i := new(big.Rat), big.NewRat(1, 1)
	return square{{l[0], l[2], l[4]}, {l[1], l[3], l[5]}, {o, o, i}}
}

func squareBy(s string) square { return squareOf(numbers(s)) }

// numbers are A to F.
func (m square) numbers() []*big.Rat {
	return []*big.Rat{m[0][0], m[1][0], m[0][1], m[1][1], m[0][2], m[1][2]}
}

// row is what m brings v to, a column of three.
func (m square) row(v [3]*big.Rat) [3]*big.Rat {
	var to [3]*big.Rat
	for i := range 3 {
		to[i] = new(big.Rat)
		for k := range 3 {
			to[i].Add(to[i], new(big.Rat).Mul(m[i][k], v[k]))
		}
	}
	return to
}

// times is the product of both, row by column.
func (m square) times(n square) square {
	var to square
	for k := range 3 {
		v := m.row([3]*big.Rat{n[0][k], n[1][k], n[2][k]})
		for i := range 3 {
			to[i][k] = v[i]
		}
	}
	return to
}

// det is the sum of the products of all orders, each with its sign.
func (m square) det() *big.Rat {
	d := new(big.Rat)
	for _, x := range [][4]int{{0, 1, 2, 1}, {1, 2, 0, 1}, {2, 0, 1, 1}, {0, 2, 1, -1}, {1, 0, 2, -1}, {2, 1, 0, -1}} {
		v := big.NewRat(int64(x[3]), 1)
		for i := range 3 {
			v.Mul(v, m[i][x[i]])
		}
		d.Add(d, v)
	}
	return d
}

// undone is the map that undoes m, found by taking rows from rows, till m is
// the one that leaves all points.
func (m square) undone() square {
	undo := squareBy("1 0 0 1 0 0")
	var left square
	for i := range 3 {
		for k := range 3 {
			left[i][k] = new(big.Rat).Set(m[i][k])
			undo[i][k] = new(big.Rat).Set(undo[i][k])
		}
	}
	for c := range 3 {
		for r := c; left[c][c].Sign() == 0; r++ {
			left[c], left[r] = left[r], left[c]
			undo[c], undo[r] = undo[r], undo[c]
		}
		by := new(big.Rat).Inv(left[c][c])
		for k := range 3 {
			left[c][k].Mul(left[c][k], by)
			undo[c][k].Mul(undo[c][k], by)
		}
		for r := range 3 {
			if by := new(big.Rat).Set(left[r][c]); r != c {
				for k := range 3 {
					left[r][k].Sub(left[r][k], new(big.Rat).Mul(by, left[c][k]))
					undo[r][k].Sub(undo[r][k], new(big.Rat).Mul(by, undo[c][k]))
				}
			}
		}
	}
	return undo
}

func (m square) equal(n square) bool {
	return slices.EqualFunc(m.numbers(), n.numbers(), func(a, b *big.Rat) bool { return a.Cmp(b) == 0 })
}

// given is m as the program has it, in lowest terms.
func (m square) given() api.Mat {
	l := m.numbers()
	return api.Mat{A: fraction(l[0]), B: fraction(l[1]), C: fraction(l[2]), D: fraction(l[3]), E: fraction(l[4]), F: fraction(l[5])}
}

// point is what the program has as (x, y).
func point(x, y *big.Rat) api.Pt { return api.Pt{X: fraction(x), Y: fraction(y)} }

func whole(x, y int64) api.Pt { return api.Pt{X: rat.Of(x, 1), Y: rat.Of(y, 1)} }

func fraction(v *big.Rat) api.Rat {
	return api.Rat{P: api.Int{Neg: v.Sign() < 0, N: limbs(v.Num())}, Q: limbs(v.Denom())}
}

func limbs(v *big.Int) []uint64 {
	var l []uint64
	for _, w := range v.Bits() {
		l = append(l, uint64(w))
	}
	return l
}

// is tells whether a is good and is want.
func is(a api.Rat, want *big.Rat) bool {
	return rat.Good(a) && rat.Text(a) == want.RatString()
}

// isPoint tells whether both parts of p are good and it is (x, y).
func isPoint(p api.Pt, x, y *big.Rat) bool {
	return is(p.X, x) && is(p.Y, y)
}

// entriesOf are A to F, as they stand there.
func entriesOf(m api.Mat) []api.Rat {
	return []api.Rat{m.A, m.B, m.C, m.D, m.E, m.F}
}

// isMap tells whether all entries of m are good and it is want.
func isMap(m api.Mat, want square) bool {
	return slices.EqualFunc(entriesOf(m), want.numbers(), is)
}

// none tells whether m is empty, as it is told beside an error.
func none(m api.Mat) bool {
	for _, a := range entriesOf(m) {
		if a.P.Neg || len(a.P.N)+len(a.Q) != 0 {
			return false
		}
	}
	return true
}

func text(m api.Mat) string {
	var l []string
	for _, a := range entriesOf(m) {
		l = append(l, rat.Text(a))
	}
	return strings.Join(l, " ")
}

// forms are a, which is good, and what is not good but comes to a.
func forms(a api.Rat) []api.Rat {
	l := []api.Rat{a}
	for _, c := range [][]uint64{{1}, {2}, {255}, {0, 1}, {7, 1 << 63}} {
		upper, lower := nat.Mul(a.P.N, c), nat.Mul(a.Q, c)
		l = append(l, with(a, append(upper, 0), append(lower, 0, 0)), with(a, upper, lower))
	}
	if slices.Equal(a.Q, []uint64{1}) {
		l = append(l, with(a, a.P.N, nil), with(a, a.P.N, []uint64{}), with(a, a.P.N, []uint64{0}), with(a, append(slices.Clone(a.P.N), 0), []uint64{0, 0}))
	}
	if rat.Sign(a) == 0 {
		for _, b := range l[:len(l):len(l)] {
			b.P.Neg = true
			l = append(l, b)
		}
	}
	return l
}

func with(a api.Rat, upper, lower []uint64) api.Rat {
	return api.Rat{P: api.Int{Neg: a.P.Neg, N: upper}, Q: lower}
}

// formed is a in the form of that number.
func formed(a api.Rat, n int) api.Rat {
	l := forms(a)
	return l[n%len(l)]
}

// shaped is p in the form of that number: each number may mean another one,
// good or not in either part.
func shaped(p api.Pt, n int) api.Pt {
	return api.Pt{X: formed(p.X, n), Y: formed(p.Y, n/3+2*n)}
}

// shapedMap is m, each entry in another form, beginning with that number.
func shapedMap(m api.Mat, n int) api.Mat {
	return api.Mat{A: formed(m.A, n), B: formed(m.B, 2*n+1), C: formed(m.C, n+3), D: formed(m.D, 3*n+4), E: formed(m.E, n/2+7), F: formed(m.F, 5*n+2)}
}

// inOneForm are m with one of its entries in another form, each by turns.
func inOneForm(m api.Mat) []api.Mat {
	var l []api.Mat
	for i, a := range entriesOf(m) {
		for _, b := range forms(a) {
			n := m
			*place(&n, i) = b
			l = append(l, n)
		}
	}
	return l
}

// place is where m has that entry.
func place(m *api.Mat, i int) *api.Rat {
	return []*api.Rat{&m.A, &m.B, &m.C, &m.D, &m.E, &m.F}[i]
}

// turning are maps that can be undone: the first one leaves all points.
func turning() []square {
	var l []square
	for _, s := range []string{
		"1 0 0 1 0 0",
		"1 0 0 1 3 -2",
		"1 0 0 1 -1/64 1/3",
		"0 1 -1 0 0 0",
		"-1 0 0 -1 7 7",
		"3/5 4/5 -4/5 3/5 1 2",
		"-1 0 0 1 5 0",
		"1 0 0 -1 0 0",
		"0 1 1 0 0 0",
		"2 0 0 1/3 0 0",
		"2 0 0 2 0 0",
		"1 0 -5/7 1 0 9",
		"0 3 -2 0 1/2 -1/2",
		"2 1 -1 3 1 -1/2",
		"0 -2 7 5 1 1",
		"3 5 0 -2 1 1",
		"3 0 5 -2 -1 1",
		"3 -7 5 0 1 -1",
		"-22/7 13/11 5/3 -1/9 100/3 -1/1000",
		"18446744073709551616 -1/3 340282366920938463463374607431768211457/7 -9223372036854775807/5 1e40 -1e41",
		"1e-40 -3e-41 22/7 -1/31415926535897932384626433832795028841971693993751 7e-60 18446744073709551615",
		"18446744073709551617 18446744073709551616 18446744073709551616 18446744073709551615 0 1/18446744073709551616",
	} {
		l = append(l, squareBy(s))
	}
	return l
}

// flattening are maps whose det is 0.
func flattening() []square {
	var l []square
	for _, s := range []string{
		"0 0 0 0 0 0",
		"0 0 0 0 5 -7/3",
		"1 2 0 0 1 1",
		"0 0 1 2 1 1",
		"1 0 2 0 1 1",
		"0 1 0 2 1 1",
		"7 0 0 0 0 0",
		"0 7 0 0 0 0",
		"0 0 7 0 0 0",
		"0 0 0 7 0 0",
		"1 2 1 2 1/64 1/64",
		"1 2 3 6 0 0",
		"1 2 -3 -6 0 1",
		"1 1 1 1 1 1",
		"1/2 -1/3 -1/5 2/15 9 9",
		"3 5 -3/1000 -1/200 -1 0",
		"18446744073709551617 18446744073709551616 1 18446744073709551616/18446744073709551617 1 1",
		"1e40 -1e-40 -3e41 3e-39 18446744073709551616 1e-90",
	} {
		l = append(l, squareBy(s))
	}
	return l
}

func allMaps() []square { return append(turning(), flattening()...) }

// points are (0, 0), points on the axes and beside them, and some of parts of
// several limbs.
func points() [][2]*big.Rat {
	var l [][2]*big.Rat
	for _, s := range []string{
		"0 0", "1 0", "0 1", "-1 0", "0 -1", "1 1", "-7 9", "1/2 1/3", "-3/2 -1", "22/7 -2/3", "1/64 -1/65536",
		"18446744073709551615 18446744073709551616", "-9223372036854775808 1/18446744073709551616", "340282366920938463463374607431768211457/18446744073709551615 -1e40", "1e-60 -1e60",
		"17/31415926535897932384626433832795028841971693993751 31415926535897932384626433832795028841971693993751/17",
	} {
		v := numbers(s)
		l = append(l, [2]*big.Rat{v[0], v[1]})
	}
	return l
}

// brought is where m brings p.
func (m square) brought(p [2]*big.Rat) (x, y *big.Rat) {
	v := m.row([3]*big.Rat{p[0], p[1], big.NewRat(1, 1)})
	return v[0], v[1]
}
