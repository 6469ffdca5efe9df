package lex_test

import (
	"math/big"
	"strings"
	"testing"

	"gesso/api"
)

// P10.1: numbers.

const most = 4611686018427387904

func TestNumbersAtTheBound(t *testing.T) {
	for s, n := range map[string]int64{
		"4611686018427387902":  most - 2,
		"4611686018427387903":  most - 1,
		"4611686018427387904":  most,
		"4611686018427387905":  most,
		"4611686018427387909":  most,
		"4611686018427387910":  most,
		"4611686018427387999":  most,
		"4611686018427387899":  4611686018427387899,
		"4611686018427387900":  4611686018427387900,
		"4611686018427388000":  most,
		"461168601842738790":   461168601842738790,
		"461168601842738791":   461168601842738791,
		"999999999999999999":   999999999999999999,
		"1000000000000000000":  1000000000000000000,
		"5000000000000000000":  most,
		"9223372036854775807":  most,
		"9223372036854775808":  most,
		"9223372036854775809":  most,
		"9999999999999999999":  most,
		"10000000000000000000": most,
		"13835058055282163712": most,
		"18446744073709551615": most,
		"18446744073709551616": most,
		"18446744073709551617": most,
		"18446744073709551621": most,
		"23058430092136939520": most,
		"36893488147419103232": most,
		"46116860184273879040": most,
		"0":                    0,
		"1":                    1,
	} {
		for _, noughts := range []string{"", "0", "00000", strings.Repeat("0", 70)} {
			check(t, noughts+s, tokens(num(0, n)))
			check(t, "-"+noughts+s, tokens(num(0, -n)))
			check(t, "a-"+noughts+s+"-"+s+"b", tokens(word(0, "a"), num(1, -n), num(2+len(noughts+s), -n), word(3+len(noughts+s+s), "b")))
		}
	}
}

// Beside all powers of two and of ten, and their multiples, far beyond all
// kinds of whole numbers.
func TestNumbersBesidePowers(t *testing.T) {
	for _, base := range []int64{2, 10} {
		for k := range int64(300) {
			for _, by := range []int64{1, 3, 9, 461168601842738790} {
				for d := int64(-12); d <= 12; d++ {
					v := new(big.Int).Exp(big.NewInt(base), big.NewInt(k), nil)
					v.Mul(v, big.NewInt(by)).Add(v, big.NewInt(d))
					s := v.String()
					check(t, s, tokens(num(0, bounded(s))))
					if v.Sign() > 0 {
						check(t, "-"+s, tokens(num(0, bounded("-"+s))))
					}
				}
			}
		}
	}
}

func TestNumbersOfEachLength(t *testing.T) {
	for n := 1; n < 200; n++ {
		for _, d := range "0123456789" {
			s := strings.Repeat(string(d), n)
			check(t, s, tokens(num(0, bounded(s))))
			check(t, "-"+s, tokens(num(0, bounded("-"+s))))
			one := strings.Repeat("0", n-1) + string(d)
			check(t, one+" -"+one, tokens(num(0, int64(d-'0')), num(n+1, -int64(d-'0'))))
		}
	}
}

func TestSmallNumbers(t *testing.T) {
	for n := range int64(20000) {
		s := big.NewInt(n).String()
		check(t, s+"-"+s, tokens(num(0, n), num(len(s), -n)))
	}
}

// As many digits as a text can have.
func TestNumbersOfVeryManyDigits(t *testing.T) {
	check(t, strings.Repeat("0", api.MaxText), tokens(num(0, 0)))
	check(t, strings.Repeat("9", api.MaxText), tokens(num(0, most)))
	check(t, "-"+strings.Repeat("0", api.MaxText-1), tokens(num(0, 0)))
	check(t, "-"+strings.Repeat("7", api.MaxText-1), tokens(num(0, -most)))
	check(t, "-"+strings.Repeat("0", api.MaxText-3)+"42", tokens(num(0, -42)))
	check(t, "1"+strings.Repeat("0", api.MaxText-1), tokens(num(0, most)))
}
