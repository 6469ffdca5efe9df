package fix_test

import (
	"math"
	"math/big"

	"gesso/api"
	"gesso/nat"
	"gesso/rat"
	"gesso/zed"
)

// someUnits are those that have parts, the least and the greatest among them.
var someUnits = []int64{1, 2, 3, 7, 10, 63, 64, 65, 255, 256, 1023, 1024, 65535, 65536, 1_000_003, 1<<32 - 1, 1 << 32, 1 << 62, 1<<62 + 1, math.MaxInt64 - 1, math.MaxInt64}

// wrongUnits are those that have none.
var wrongUnits = []int64{0, -1, -2, -64, -255, -65536, math.MinInt32, math.MinInt64 + 1, math.MinInt64}

// counts are how many parts there may be, the least and the greatest int64
// among them.
var counts = []int64{0, 1, -1, 2, -2, 3, -3, 31, 32, 33, -32, 63, 64, -64, 65, 254, 255, -255, 256, 1024, 65536, -65537, 1 << 31, -1 << 31, 1<<40 + 7, -1<<40 + 7, 1 << 62, -1 << 62, math.MaxInt64 - 1, math.MaxInt64, math.MinInt64 + 1, math.MinInt64}

// fraction is v as the program has it, in lowest terms.
func fraction(v *big.Rat) api.Rat {
	return api.Rat{P: api.Int{Neg: v.Sign() < 0, N: limbs(v.Num())}, Q: limbs(v.Denom())}
}

func limbs(v *big.Int) []uint64 {
	var l []uint64
	for _, w := range v.Bits() {
		l = append(l, uint64(w))
	}
	return l
}

// is tells whether a is good and is want.
func is(a api.Rat, want *big.Rat) bool {
	return rat.Good(a) && rat.Text(a) == want.RatString()
}

// isWhole tells whether a is good and is want.
func isWhole(a api.Int, want *big.Int) bool {
	return zed.Good(a) && zed.Text(a) == want.String()
}

// forms are a, which is good, and what is not good but comes to a.
func forms(a api.Rat) []api.Rat {
	l := []api.Rat{a}
	for _, c := range [][]uint64{{1}, {2}, {255}, {0, 1}, {7, 1 << 63}} {
		upper, lower := nat.Mul(a.P.N, c), nat.Mul(a.Q, c)
		l = append(l, with(a, upper, lower), with(a, append(upper, 0), lower), with(a, upper, append(lower, 0, 0)))
	}
	if rat.Cmp(a, api.Rat{P: a.P}) == 0 {
		l = append(l, with(a, a.P.N, nil), with(a, a.P.N, []uint64{}), with(a, a.P.N, []uint64{0}), with(a, append(nat.Add(a.P.N, nil), 0), []uint64{0, 0}))
	}
	if rat.Sign(a) == 0 {
		for _, b := range l[:len(l):len(l)] {
			b.P.Neg = true
			l = append(l, b)
		}
	}
	return l
}

func with(a api.Rat, upper, lower []uint64) api.Rat {
	return api.Rat{P: api.Int{Neg: a.P.Neg, N: upper}, Q: lower}
}

// tiny is 2 to the -n.
func tiny(n uint) *big.Rat {
	return new(big.Rat).SetFrac(big.NewInt(1), new(big.Int).Lsh(big.NewInt(1), n))
}

// beside is v, and what is below it and above it, from far to very near.
func beside(v *big.Rat) []*big.Rat {
	l := []*big.Rat{v}
	for _, by := range []*big.Rat{big.NewRat(1, 7), big.NewRat(1, 100_000), tiny(63), tiny(64), tiny(200)} {
		l = append(l, new(big.Rat).Sub(v, by), new(big.Rat).Add(v, by))
	}
	return l
}

// bases are fractions above 0, below it, and 0: whole ones, those beside
// limbs' ends, far below 1 and far above it.
func bases() []*big.Rat {
	l := []*big.Rat{new(big.Rat)}
	for _, s := range []string{
		"1", "2", "5", "64", "255", "1/2", "1/3", "3/2", "2/3", "1/64", "1/128", "3/128", "1/129", "1/510", "1/511", "509/510", "254/255", "256/255", "22/7", "999/1000",
		"9223372036854775807", "9223372036854775808", "18446744073709551615", "18446744073709551616", "1/9223372036854775807", "1/18446744073709551614", "1/18446744073709551615", "1/18446744073709551616", "18446744073709551615/18446744073709551616", "340282366920938463463374607431768211457/340282366920938463463374607431768211456",
		"1e60", "1e-60", "31415926535897932384626433832795028841971693993751/17", "17/31415926535897932384626433832795028841971693993751", "3e400", "7e-400",
	} {
		v, ok := new(big.Rat).SetString(s)
		if !ok {
			panic("the test itself")
		}
		l = append(l, v, new(big.Rat).Neg(v))
	}
	return l
}

// nearest is Floor of v unit and 1/2, by another implementation: the greatest
// whole number m for which 2 m - 1 is not above 2 v unit.
func nearest(v *big.Rat, unit int64) *big.Int {
	upper := new(big.Int).Mul(v.Num(), big.NewInt(unit))
	upper.Lsh(upper, 1).Add(upper, v.Denom())
	// Div of what is above 0 cuts downward
	return upper.Div(upper, new(big.Int).Lsh(v.Denom(), 1))
}
