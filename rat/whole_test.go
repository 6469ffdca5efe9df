package rat_test

import (
	"math"
	"math/big"
	"testing"

	"gesso/rat"
)

// P3.2: Floor, Ceil.

func TestFloorAndCeilOfFew(t *testing.T) {
	for i, x := range []struct{ p, q, floor, ceil int64 }{
		{0, 1, 0, 0},
		{1, 1, 1, 1},
		{-1, 1, -1, -1},
		{6, 2, 3, 3},
		{-6, 2, -3, -3},
		{6, -4, -2, -1},
		{7, 2, 3, 4},
		{-7, 2, -4, -3},
		{1, 100, 0, 1},
		{-1, 100, -1, 0},
		{99, 100, 0, 1},
		{-99, 100, -1, 0},
		{101, 100, 1, 2},
		{-101, 100, -2, -1},
		{math.MaxInt64, 1, math.MaxInt64, math.MaxInt64},
		{math.MinInt64, 1, math.MinInt64, math.MinInt64},
		{math.MaxInt64, 2, 1<<62 - 1, 1 << 62},
		{1, math.MinInt64, -1, 0},
		{1, math.MaxInt64, 0, 1},
		{math.MinInt64, math.MaxInt64, -2, -1},
		{math.MaxInt64, math.MinInt64, -1, 0},
	} {
		a := rat.Of(x.p, x.q)
		if f, c := rat.Floor(a), rat.Ceil(a); !isWhole(f, big.NewInt(x.floor)) || !isWhole(c, big.NewInt(x.ceil)) {
			t.Error(i, x, f, c)
		}
	}
	if f, c := rat.Floor(rat.Of(math.MinInt64, -1)), rat.Ceil(rat.Of(math.MinInt64, -1)); !isWhole(f, new(big.Int).Lsh(big.NewInt(1), 63)) || !isWhole(c, new(big.Int).Lsh(big.NewInt(1), 63)) {
		t.Error(f, c)
	}
}

// The document's own words: not above a, and the next one is; not below a,
// and the one ahead is.
func TestFloorAndCeil(t *testing.T) {
	one := big.NewRat(1, 1)
	for i, a := range numbers() {
		v := toBig(a)
		for j, x := range forms(a) {
			f, c := rat.Floor(x), rat.Ceil(x)
			low, high := new(big.Rat).SetInt(toInt(f)), new(big.Rat).SetInt(toInt(c))
			if !goodInt(f) || low.Cmp(v) > 0 || new(big.Rat).Add(low, one).Cmp(v) <= 0 {
				t.Error(i, j, f)
			}
			if !goodInt(c) || high.Cmp(v) < 0 || new(big.Rat).Sub(high, one).Cmp(v) >= 0 {
				t.Error(i, j, c)
			}
		}
	}
}
