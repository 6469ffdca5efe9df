package fix_test

import (
	"math"
	"math/big"
	"testing"

	"gesso/api"
	"gesso/fix"
	"gesso/rat"
)

// P5.1: From. P5.2: To of From.

func TestFromOfFew(t *testing.T) {
	for i, x := range []struct {
		v, unit int64
		s       string
	}{
		{64, 64, "1"},
		{-96, 64, "-3/2"},
		{1, 65536, "1/65536"},
		{6, 4, "3/2"},
		{-1, 1024, "-1/1024"},
		{255, 255, "1"},
		{51, 255, "1/5"},
		{0, 1, "0"},
		{0, 64, "0"},
		{0, math.MaxInt64, "0"},
		{7, 1, "7"},
		{math.MinInt64, 1, "-9223372036854775808"},
		{math.MaxInt64, 1, "9223372036854775807"},
		{math.MinInt64, 64, "-144115188075855872"},
		{math.MaxInt64, math.MaxInt64, "1"},
		{math.MinInt64, math.MaxInt64, "-9223372036854775808/9223372036854775807"},
		{1, math.MaxInt64, "1/9223372036854775807"},
		{5, 0, "0"},
		{5, -1, "0"},
		{-5, -5, "0"},
		{0, 0, "0"},
		{math.MinInt64, math.MinInt64, "0"},
		{math.MaxInt64, math.MinInt64, "0"},
		{math.MinInt64, -1, "0"},
		{math.MinInt64, 0, "0"},
	} {
		if a := fix.From(x.v, x.unit); !rat.Good(a) || rat.Text(a) != x.s {
			t.Error(i, a)
		}
	}
}

func TestFrom(t *testing.T) {
	for _, unit := range someUnits {
		for _, v := range counts {
			if a := fix.From(v, unit); !is(a, big.NewRat(v, unit)) {
				t.Error(v, unit, a)
			}
		}
	}
	for _, unit := range wrongUnits {
		for _, v := range counts {
			if a := fix.From(v, unit); !is(a, new(big.Rat)) {
				t.Error(v, unit, a)
			}
		}
	}
}

func TestFromOfSmall(t *testing.T) {
	for unit := int64(-3); unit < 70; unit++ {
		for v := int64(-140); v <= 140; v++ {
			want := new(big.Rat)
			if unit >= 1 {
				want = big.NewRat(v, unit)
			}
			if a := fix.From(v, unit); !is(a, want) {
				t.Error(v, unit, a)
			}
		}
	}
}

func TestToOfFrom(t *testing.T) {
	for _, v := range counts {
		for _, unit := range someUnits {
			for _, a := range forms(fix.From(v, unit)) {
				if n := fix.To(a, unit); !isWhole(n, big.NewInt(v)) {
					t.Error(v, unit, n)
				}
			}
		}
		for _, unit := range wrongUnits {
			if n := fix.To(fix.From(v, unit), unit); n.Neg || len(n.N) > 0 {
				t.Error(v, unit, n)
			}
		}
	}
}

// The other way round only what is a whole number of parts stays.
func TestFromOfTo(t *testing.T) {
	for _, x := range []struct {
		a    api.Rat
		unit int64
		s    string
	}{{rat.Of(3, 2), 64, "3/2"}, {rat.Of(1, 3), 64, "21/64"}, {rat.Of(2, 3), 64, "43/64"}, {rat.Of(-1, 3), 2, "-1/2"}, {rat.Of(-1, 4), 2, "0"}, {rat.Of(1, 4), 2, "1/2"}} {
		n := fix.To(x.a, x.unit)
		whole, e := rat.Make(n, api.Int{N: []uint64{uint64(x.unit)}})
		if e != api.OK || rat.Text(whole) != x.s {
			t.Error(rat.Text(x.a), x.unit, rat.Text(whole))
		}
	}
}
