package flat_test

import (
	"math/big"
	"testing"

	"gesso/api"
	"gesso/flat"
	"gesso/rat"
)

// P15.1: Is. That it is false of what is no curve is held beside Gap's error.

func TestIsOfFew(t *testing.T) {
	for i, x := range []struct {
		l, tol string
		flat   bool
	}{
		{"0 0 1; 1 2 1; 2 0 1", "2", true},
		{"0 0 1; 1 2 1; 2 0 1", "3", true},
		{"0 0 1; 1 2 1; 2 0 1", "199/100", false},
		{"0 0 1; 1 2 1; 2 0 1", "1", false}, // the curve itself is that near
		{"0 0 1; 1 2 1; 2 0 1", "0", false},
		{"0 0 1; 1 2 1; 2 0 1", "-2", false},
		{"0 0 1; 1 2 1; 2 0 1", "-3", false},
		{"0 0 1; 1 2 2; 2 0 1", "1", true},
		{"0 0 1; 1 2 2; 2 0 1", "99/100", false},
		{"0 0 1; 1 1/2 1; 2 0 1", "1/2", true}, // below 1 a square is below its root
		{"0 0 1; 1 1/2 1; 2 0 1", "1/4", false},
		{"0 0 1; 1 1/2 1; 2 0 1", "49/100", false},
		{"0 0 1; 5 5 1", "0", true},
		{"0 0 1; 5 5 1", "1/1024", true},
		{"0 0 1; 5 5 1", "-1/1024", false},
		{"7 7 1; 7 7 1; 7 7 1; 7 7 1", "0", true},
		{"7 7 1; 7 7 1; 7 7 1; 7 7 1", "-1", false},
		{"0 0 1; 1 1 1; 2 2 1", "0", true},
		{"0 0 1; 1 1 1; 2 2 1", "-1e-60", false},
		{"0 0 1; 3 0 1; 2 0 1", "1", true},
		{"0 0 1; 3 0 1; 2 0 1", "1023/1024", false},
		{"1 1 1; 4 5 1; 1 1 1", "5", true},
		{"1 1 1; 4 5 1; 1 1 1", "4", false},
		{"0 0 1; 1 1e-60 1; 2 0 1", "0", false},
		{"0 0 1; 1 1e-60 1; 2 0 1", "1e-60", true},
		{"0 0 1; 1 -2 1; 2 3 1; 3 0 1", "3", true},
		{"0 0 1; 1 -2 1; 2 3 1; 3 0 1", "2", false},
		{"0 0 1; 1 -3 1; 2 2 1; 3 0 1", "3", true},
		{"0 0 1; 1 -3 1; 2 2 1; 3 0 1", "2", false},
	} {
		for _, tol := range forms(fraction(number(x.tol))) {
			if flat.Is(given(controls(x.l)), tol) != x.flat {
				t.Error(i, x.l, x.tol)
			}
		}
	}
}

// A tolerance that is just the gap's root, and such on both sides of it.
func TestIsAtTheRoot(t *testing.T) {
	for _, root := range numbers("1 2 1/2 1/1024 22/7 1e60 1e-60 18446744073709551617/3 18446744073709551615/18446744073709551616") {
		minus := new(big.Rat).Neg(root)
		for _, height := range []*big.Rat{root, minus} {
			for n := 3; n < 5; n++ {
				var c []control
				for i := range int64(n) {
					c = append(c, control{big.NewRat(i, 1), new(big.Rat), big.NewRat(1, 1)})
				}
				c[n-2][1] = height
				for i, l := range [][]api.Hom{given(c), shaped(given(c), n)} {
					little := new(big.Rat).Mul(root, number("1e-50"))
					below, above := new(big.Rat).Sub(root, little), new(big.Rat).Add(root, little)
					if !flat.Is(l, fraction(root)) || flat.Is(l, fraction(below)) || !flat.Is(l, fraction(above)) {
						t.Error(i, root, height, n)
					}
					if flat.Is(l, fraction(minus)) || flat.Is(l, rat.Neg(fraction(above))) {
						t.Error(i, minus, height, n)
					}
				}
			}
		}
	}
}

// A tolerance that is not there is 0, one without a Q is its P.
func TestIsByNothing(t *testing.T) {
	line, bow := given(controls("0 0 1; 5 5 1")), given(controls("0 0 1; 1 3 1; 2 0 1"))
	for _, nought := range []api.Rat{{}, {Q: []uint64{5}}, {P: api.Int{Neg: true}}, {P: api.Int{Neg: true, N: []uint64{0, 0}}, Q: []uint64{0}}} {
		if !flat.Is(line, nought) || flat.Is(bow, nought) {
			t.Error(nought)
		}
	}
	three := api.Int{N: []uint64{3}}
	if !flat.Is(bow, api.Rat{P: three}) || !flat.Is(bow, api.Rat{P: three, Q: []uint64{0}}) {
		t.Error("3 by none")
	}
	three.Neg = true
	if flat.Is(line, api.Rat{P: three}) || flat.Is(bow, api.Rat{P: three}) {
		t.Error("-3 by none")
	}
}
