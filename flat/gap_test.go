package flat_test

import (
	"math/big"
	"testing"

	"gesso/api"
	"gesso/flat"
	"gesso/rat"
)

// P15.1: Gap.

func TestGapOfFew(t *testing.T) {
	for i, x := range []struct{ l, gap string }{
		{"0 0 1; 1 2 1; 2 0 1", "4"},
		{"0 0 1; 5 5 1", "0"},
		{"5 5 1; 5 5 1", "0"},
		{"5 5 1; 5 5 7", "0"},
		// weights: it is where a control point is that counts
		{"0 0 1; 1 2 2; 2 0 1", "1"},
		{"0 0 1; 1/2 1 1/2; 2 0 1", "4"},
		{"0 0 3; 1 2 1; 1 0 1/2", "4"},
		{"0 0 1; 0 4096 4096; 2 0 2", "1"},
		{"2 2 2; 8 10 2; 3 3 3", "25"},
		// one place
		{"7 -3 1; 7 -3 1; 7 -3 1", "0"},
		{"7 -3 1; 14 -6 2; 7/3 -1 1/3; 21 -9 3", "0"},
		// both ends the same
		{"1 1 1; 4 5 1; 1 1 1", "25"},
		{"1 1 1; 4 5 1; 1 2 1; 1 1 1", "25"},
		{"1 1 1; 1 2 1; 4 5 1; 1 1 1", "25"},
		{"1 1 1; 1 1 1; 1 1/2 1; 1 1 1", "1/4"},
		// on the chord, its ends too
		{"0 0 1; 0 0 1; 9 9 1", "0"},
		{"0 0 1; 9 9 1; 9 9 1", "0"},
		{"0 0 1; 3 3 1; 9 9 1", "0"},
		{"0 0 1; 8 8 1; 1 1 1; 9 9 1", "0"},
		{"9 -3 1; 3 -1 1; 6 -2 1; 0 0 1", "0"},
		// beyond its ends, on its line
		{"0 0 1; 5 0 1; 2 0 1", "9"},
		{"0 0 1; -5 0 1; 2 0 1", "25"},
		{"2 0 1; -5 0 1; 0 0 1", "25"},
		{"0 0 1; 5 0 1; -4 0 1; 2 0 1", "16"},
		{"0 0 1; -4 0 1; 7 0 1; 2 0 1", "25"},
		{"0 0 1; 3 3 1; 2 2 1", "2"},
		// beyond its ends, and beside it
		{"0 0 1; -3 4 1; 2 0 1", "25"},
		{"0 0 1; -3 -4 1; 2 0 1", "25"},
		{"0 0 1; 5 -4 1; 2 0 1", "25"},
		{"0 0 1; 5 4 1; 2 0 1", "25"},
		{"2 0 1; 5 4 1; 0 0 1", "25"},
		// just beside its ends
		{"0 0 1; 0 4 1; 2 0 1", "16"},
		{"0 0 1; 2 -4 1; 2 0 1", "16"},
		// on both sides of it
		{"0 0 1; 1 -2 1; 2 0 1", "4"},
		{"0 0 1; 0 2 1; -1 0 1; 0 4 1", "1"},
		{"1 0 1; 0 0 1; 0 2 1", "4/5"},
		{"1 0 1; 0 0 1; 0 1 1", "1/2"},
		// the first one of the middle ones is the farthest one, the other one is
		{"0 0 1; 1 -3 1; 2 2 1; 3 0 1", "9"},
		{"0 0 1; 1 -2 1; 2 3 1; 3 0 1", "9"},
		{"0 0 1; 1 2 1; 2 -2 1; 3 0 1", "4"},
		{"0 0 1; 0 0 1; 2 1 1; 3 0 1", "1"},
		{"0 0 1; 2 1 1; 3 0 1; 3 0 1", "1"},
		{"0 0 1; 0 8 1; 8 8 1; 8 0 1", "64"},
	} {
		l := given(controls(x.l))
		if gap, e := flat.Gap(l); rat.Text(gap) != x.gap || !rat.Good(gap) || e != api.OK {
			t.Error(i, x.l, rat.Text(gap), e)
		}
	}
}

func TestGap(t *testing.T) {
	for _, c := range curves() {
		for n := range 14 {
			l := given(c)
			if n > 0 {
				l = shaped(l, n)
			}
			check(t, c, l)
		}
	}
}

func TestGapOfThrown(t *testing.T) {
	d := dice(43)
	for n := range 900 {
		c := d.thrownCurve(2 + n%3)
		if n%5 == 0 {
			c[len(c)-1] = c[0]
		}
		check(t, c, shaped(given(c), n))
	}
}

// Each place in turn is far away, the others are near to each other: the gap is
// that one's, or of the end that stays behind.
func TestGapOfFarAtEachPlace(t *testing.T) {
	for n := 2; n < 5; n++ {
		for k := range n {
			for _, far := range numbers("1000 -1000 1e60 -1e60 18446744073709551616/3") {
				var c []control
				for i := range int64(n) {
					c = append(c, control{big.NewRat(i, 7), big.NewRat(i*i, 5), big.NewRat(1+i, 3)})
				}
				c[k][1] = far
				check(t, c, given(c))
			}
		}
	}
}

// Control points on the way from the first one to the last one, a little beside
// it, and a little beyond its ends.
func TestGapNearTheChord(t *testing.T) {
	from, to := point(numbers("-3/2 7")), point(numbers("22/7 -1/3"))
	weight := big.NewRat(3, 2)
	end := func(p point) control {
		return control{new(big.Rat).Mul(p[0], weight), new(big.Rat).Mul(p[1], weight), weight}
	}
	for _, way := range numbers("0 1 1/2 1/3 1e-40 -1e-40 -1 2 18446744073709551615/18446744073709551616 18446744073709551617/18446744073709551616") {
		for _, aside := range numbers("0 1e-90 -1e-90 1 -1") {
			p := mixed(from, to, way)
			p[1] = new(big.Rat).Add(p[1], aside)
			check(t, []control{end(from), end(p), end(to)}, given([]control{end(from), end(p), end(to)}))
			check(t, []control{end(to), end(p), end(p), end(from)}, given([]control{end(to), end(p), end(p), end(from)}))
			check(t, []control{end(from), end(p), end(from)}, given([]control{end(from), end(p), end(from)}))
		}
	}
}

// Numbers that are not there count as nought, a weight without a Q as its P.
func TestGapOfNothing(t *testing.T) {
	w := api.Rat{P: api.Int{N: []uint64{4}}}
	check(t, controls("0 0 4; 4 0 4; 0 0 4"), []api.Hom{{W: w}, {X: w, W: w}, {Y: api.Rat{P: api.Int{Neg: true}}, W: w}})
	check(t, controls("4 0 4; 0 0 4"), []api.Hom{{X: w, W: w}, {W: w}})
}

func TestGapOfNoCurve(t *testing.T) {
	for _, l := range badLists() {
		refused(t, l)
	}
}

// Beside each weight that is not above 0 stands one that is: just that one is
// refused, whatever the points are.
func TestGapOfLeastWeights(t *testing.T) {
	for n := 2; n < 5; n++ {
		for k := range n {
			for _, w := range numbers("1 1/64 1e-60 1e60 18446744073709551616") {
				var c []control
				for i := range int64(n) {
					c = append(c, control{big.NewRat(i, 1), big.NewRat(-i*i, 3), big.NewRat(1, 1)})
				}
				c[k][2] = w
				check(t, c, given(c))
				c[k][2] = new(big.Rat).Neg(w)
				refused(t, given(c))
			}
		}
	}
}

// Numbers of some hundred digits.
func TestGapOfLongNumbers(t *testing.T) {
	long := func(k uint) *big.Rat {
		one := big.NewInt(1)
		upper := new(big.Int).Sub(new(big.Int).Lsh(one, 900+k), one)
		lower := new(big.Int).Add(new(big.Int).Lsh(one, 800-k), one)
		return new(big.Rat).SetFrac(upper, lower)
	}
	for n := 2; n < 5; n++ {
		var c []control
		for i := range uint(n) {
			c = append(c, control{long(7 * i), new(big.Rat).Neg(long(11*i + 1)), long(13*i + 2)})
		}
		check(t, c, given(c))
	}
}
