package root_test

import (
	"math/big"
	"testing"

	"gesso/api"
	"gesso/nat"
	"gesso/rat"
)

// fraction is v as the program has it, in lowest terms.
func fraction(v *big.Rat) api.Rat {
	a, e := rat.Parse(v.RatString())
	if e != api.OK {
		panic("the test itself")
	}
	return a
}

// is tells whether a is good and is want.
func is(a api.Rat, want *big.Rat) bool {
	return rat.Good(a) && rat.Text(a) == want.RatString()
}

// none tells whether a is what stands beside an error, and beside false.
func none(a api.Rat) bool {
	return !a.P.Neg && len(a.P.N) == 0 && len(a.Q) == 0
}

// forms are a, which is good, and what is not good but comes to a.
func forms(a api.Rat) []api.Rat {
	l := []api.Rat{a}
	for _, c := range [][]uint64{{1}, {2}, {4}, {45}, {0, 1}, {7, 1 << 63}} {
		upper, lower := nat.Mul(a.P.N, c), nat.Mul(a.Q, c)
		l = append(l, with(a, upper, lower), with(a, append(upper, 0), lower), with(a, upper, append(lower, 0, 0)))
	}
	if rat.Cmp(a, api.Rat{P: a.P}) == 0 {
		l = append(l, with(a, a.P.N, nil), with(a, a.P.N, []uint64{}), with(a, a.P.N, []uint64{0}), with(a, append(nat.Add(a.P.N, nil), 0), []uint64{0, 0}))
	}
	if rat.Sign(a) == 0 {
		for _, b := range l[:len(l):len(l)] {
			b.P.Neg = true
			l = append(l, b)
		}
	}
	return l
}

func with(a api.Rat, upper, lower []uint64) api.Rat {
	return api.Rat{P: api.Int{Neg: a.P.Neg, N: upper}, Q: lower}
}

// power is 2 to the n, n below 0 or above.
func power(n int) *big.Rat {
	v := new(big.Rat).SetInt(new(big.Int).Lsh(big.NewInt(1), uint(max(n, -n))))
	if n < 0 {
		v.Inv(v)
	}
	return v
}

func product(a, b *big.Rat) *big.Rat {
	return new(big.Rat).Mul(a, b)
}

func square(v *big.Rat) *big.Rat {
	return product(v, v)
}

// beside is v, and what is just below it, if that is not below 0, and just
// above.
func beside(v *big.Rat) []*big.Rat {
	l := []*big.Rat{v}
	for _, by := range []*big.Rat{big.NewRat(1, 7), power(-70), power(-8300), power(-9000)} {
		l = append(l, new(big.Rat).Add(v, by))
		if v.Cmp(by) >= 0 {
			l = append(l, new(big.Rat).Sub(v, by))
		}
	}
	return l
}

// bases are fractions not below 0: whole ones, those beside limbs' ends, far
// below 1 and far above it.
func bases() []*big.Rat {
	l := []*big.Rat{new(big.Rat)}
	for _, s := range []string{
		"1", "2", "3", "4", "6", "7", "9", "10", "16", "99", "1/2", "1/3", "1/4", "2/3", "3/2", "4/3", "9/8", "22/7", "16/25", "1/100", "99/100", "101/100",
		"4294967295", "4294967296", "9223372036854775808", "18446744073709551615", "18446744073709551616", "18446744073709551617", "1/18446744073709551615", "18446744073709551615/18446744073709551616", "340282366920938463463374607431768211456/340282366920938463463374607431768211455",
		"1e60", "1e-60", "31415926535897932384626433832795028841971693993751/17", "17/31415926535897932384626433832795028841971693993751", "3e700", "7e-700",
	} {
		v, ok := new(big.Rat).SetString(s)
		if !ok {
			panic("the test itself")
		}
		l = append(l, v)
	}
	for _, n := range []int{1, 31, 32, 63, 64, 65, 127, 128, 4095, 4096, 4097, 8191, 8192, 8193} {
		l = append(l, power(n), power(-n), product(power(-n), big.NewRat(3, 1)))
	}
	return l
}

// parts is how many parts of 2^-k a is; it must be a good fraction, and a
// whole number of them, not below 0.
func parts(t *testing.T, a api.Rat, k int) *big.Int {
	t.Helper()
	v, ok := new(big.Rat).SetString(rat.Text(a))
	if !ok || !rat.Good(a) || v.Sign() < 0 {
		t.Fatal(k, a)
	}
	v.Mul(v, power(k))
	if !v.IsInt() {
		t.Fatal(k, a, "is no whole number of parts")
	}
	return v.Num()
}
