package fix_test

import (
	"math"
	"math/big"
	"testing"

	"gesso/api"
	"gesso/fix"
	"gesso/rat"
	"gesso/zed"
)

// P5.1: To.

func TestToOfFew(t *testing.T) {
	for i, x := range []struct {
		p, q, unit int64
		s          string
	}{
		{1, 2, 64, "32"},
		{1, 128, 64, "1"},
		{1, 129, 64, "0"},
		{1, 127, 64, "1"},
		{-1, 128, 64, "0"},
		{-1, 127, 64, "-1"},
		{-1, 129, 64, "0"},
		{-3, 128, 64, "-1"},
		{3, 128, 64, "2"},
		{1, 2, 1, "1"},
		{-1, 2, 1, "0"},
		{3, 2, 1, "2"},
		{-3, 2, 1, "-1"},
		{5, 2, 1, "3"},
		{-5, 2, 1, "-2"},
		{1, 3, 1, "0"},
		{2, 3, 1, "1"},
		{-1, 3, 1, "0"},
		{-2, 3, 1, "-1"},
		{7, 1, 1, "7"},
		{-7, 1, 1, "-7"},
		{0, 1, 1, "0"},
		{0, 5, math.MaxInt64, "0"},
		{1, 1, math.MaxInt64, "9223372036854775807"},
		{1, 2, math.MaxInt64, "4611686018427387904"},
		{-1, 2, math.MaxInt64, "-4611686018427387903"},
		{math.MaxInt64, 1, math.MaxInt64, "85070591730234615847396907784232501249"},
		{math.MinInt64, 1, math.MaxInt64, "-85070591730234615856620279821087277056"},
		{math.MinInt64, 1, 1, "-9223372036854775808"},
		{math.MaxInt64, 2, 1, "4611686018427387904"},
		{1, math.MaxInt64, math.MaxInt64, "1"},
		{1, math.MinInt64, math.MaxInt64, "-1"},
		{7, 1, 0, "0"},
		{7, 1, -1, "0"},
		{-7, 1, -3, "0"},
		{7, 2, math.MinInt64, "0"},
		{math.MinInt64, 1, math.MinInt64, "0"},
	} {
		if n := fix.To(rat.Of(x.p, x.q), x.unit); !zed.Good(n) || zed.Text(n) != x.s {
			t.Error(i, n)
		}
	}
}

func TestTo(t *testing.T) {
	for _, v := range bases() {
		for _, a := range forms(fraction(v)) {
			for _, unit := range someUnits {
				if n := fix.To(a, unit); !isWhole(n, nearest(v, unit)) {
					t.Error(v, a, unit, n)
				}
			}
		}
	}
}

func TestToOfSmall(t *testing.T) {
	for q := int64(1); q < 14; q++ {
		for p := int64(-60); p <= 60; p++ {
			for unit := int64(1); unit < 14; unit++ {
				if n := fix.To(rat.Of(p, q), unit); !isWhole(n, nearest(big.NewRat(p, q), unit)) {
					t.Error(p, q, unit, n)
				}
			}
		}
	}
}

// Just between two numbers of parts it is the upper one, above 0 and below;
// a little lower it is the lower one.
func TestToJustBetween(t *testing.T) {
	for _, unit := range someUnits {
		for _, lower := range counts {
			low := big.NewInt(lower)
			high := new(big.Int).Add(low, big.NewInt(1))
			double := new(big.Int).Add(low, high)
			half := new(big.Rat).SetFrac(double, new(big.Int).Lsh(big.NewInt(unit), 1))
			below := new(big.Rat).Sub(half, tiny(200))
			above := new(big.Rat).Add(half, tiny(200))
			for _, a := range forms(fraction(half)) {
				if n := fix.To(a, unit); !isWhole(n, high) {
					t.Error(unit, half, n)
				}
			}
			if n := fix.To(fraction(below), unit); !isWhole(n, low) {
				t.Error(unit, below, n)
			}
			if n := fix.To(fraction(above), unit); !isWhole(n, high) {
				t.Error(unit, above, n)
			}
		}
	}
}

func TestToOfNoParts(t *testing.T) {
	for _, unit := range wrongUnits {
		for _, v := range bases() {
			for _, a := range forms(fraction(v)) {
				if n := fix.To(a, unit); n.Neg || len(n.N) > 0 {
					t.Error(v, unit, n)
				}
			}
		}
	}
}

// Q 0, or none, counts as 1, and a nought has no sign.
func TestToOfNoGoodFraction(t *testing.T) {
	for i, x := range []struct {
		a    api.Rat
		unit int64
		s    string
	}{
		{api.Rat{}, 64, "0"},
		{api.Rat{P: api.Int{Neg: true}}, 64, "0"},
		{api.Rat{P: api.Int{Neg: true, N: []uint64{0}}, Q: []uint64{2}}, 64, "0"},
		{api.Rat{P: api.Int{Neg: true}, Q: []uint64{0, 0, 1}}, math.MaxInt64, "0"},
		{api.Rat{P: api.Int{N: []uint64{3}}}, 64, "192"},
		{api.Rat{P: api.Int{N: []uint64{3, 0}}, Q: []uint64{0}}, 64, "192"},
		{api.Rat{P: api.Int{Neg: true, N: []uint64{3}}, Q: []uint64{0, 0}}, 255, "-765"},
		{api.Rat{P: api.Int{N: []uint64{2}}, Q: []uint64{4}}, 1, "1"},
		{api.Rat{P: api.Int{Neg: true, N: []uint64{2}}, Q: []uint64{4, 0}}, 1, "0"},
		{api.Rat{P: api.Int{Neg: true, N: []uint64{6}}, Q: []uint64{4}}, 1, "-1"},
		{api.Rat{P: api.Int{N: []uint64{0, 3}}, Q: []uint64{0, 2}}, 1, "2"},
	} {
		if n := fix.To(x.a, x.unit); !zed.Good(n) || zed.Text(n) != x.s {
			t.Error(i, n)
		}
	}
}
