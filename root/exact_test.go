package root_test

import (
	"math/big"
	"testing"

	"gesso/api"
	"gesso/rat"
	"gesso/root"
)

// P4.2: Exact.

func TestExactOfFew(t *testing.T) {
	for i, x := range []struct {
		p, q int64
		root string
		ok   bool
	}{
		{0, 1, "0", true},
		{0, -9, "0", true},
		{1, 1, "1", true},
		{4, 1, "2", true},
		{9, 0, "3", true},
		{1, 4, "1/2", true},
		{4, 9, "2/3", true},
		{9, 4, "3/2", true},
		{-4, -9, "2/3", true},
		{8, 18, "2/3", true},
		{2, 2, "1", true},
		{50, 2, "5", true},
		{2, 50, "1/5", true},
		{2, 1, "", false},
		{3, 1, "", false},
		{1, 2, "", false},
		{4, 3, "", false},
		{3, 4, "", false},
		{4, 2, "", false},
		{9, 36, "1/2", true},
		{4, 8, "", false},
		{8, 4, "", false},
		{-1, 1, "", false},
		{-4, 1, "", false},
		{4, -9, "", false},
		{-2, 3, "", false},
		{1 << 62, 1, "2147483648", true},
		{1, 1 << 62, "1/2147483648", true},
		{1<<62 - 1, 1, "", false},
		{1<<62 + 1, 1, "", false},
	} {
		a, ok := root.Exact(rat.Of(x.p, x.q))
		if ok != x.ok || ok && (!rat.Good(a) || rat.Text(a) != x.root) || !ok && !none(a) {
			t.Error(i, rat.Text(a), ok)
		}
	}
}

// checkExact holds Exact of v, in that form, against another implementation.
func checkExact(t *testing.T, v *big.Rat, a api.Rat) {
	t.Helper()
	z, ok := root.Exact(a)
	if want := exact(v); want == nil {
		if ok || !none(z) {
			t.Error(v, "has none", rat.Text(z), ok)
		}
	} else if !ok || !is(z, want) {
		t.Error(v, rat.Text(z), ok)
	}
}

// exact is the fraction, not below 0, whose square is v, or nil.
func exact(v *big.Rat) *big.Rat {
	if v.Sign() < 0 {
		return nil
	}
	w := new(big.Rat).SetFrac(new(big.Int).Sqrt(v.Num()), new(big.Int).Sqrt(v.Denom()))
	if square(w).Cmp(v) != 0 {
		return nil
	}
	return w
}

func TestExactOfSquares(t *testing.T) {
	for _, v := range bases() {
		for _, a := range forms(fraction(square(v))) {
			if z, ok := root.Exact(a); !ok || !is(z, v) {
				t.Error(v, rat.Text(z), ok)
			}
		}
		for _, w := range beside(square(v))[1:] {
			checkExact(t, w, fraction(w))
		}
	}
}

func TestExactOfAny(t *testing.T) {
	for _, v := range bases() {
		for _, w := range []*big.Rat{v, new(big.Rat).Neg(v), new(big.Rat).Neg(square(v))} {
			for _, a := range forms(fraction(w)) {
				checkExact(t, w, a)
			}
		}
	}
	for p := int64(-9); p < 70; p++ {
		for q := int64(1); q < 70; q++ {
			checkExact(t, big.NewRat(p, q), rat.Of(p, q))
		}
	}
}

// The upper number or the lower one alone is a square, however great.
func TestExactOfHalfSquares(t *testing.T) {
	for _, v := range bases() {
		s := square(v)
		if s.Sign() == 0 {
			continue
		}
		for _, by := range []int64{2, 3, 5, 10, 1_000_003} {
			for _, w := range []*big.Rat{product(s, big.NewRat(by, 1)), product(s, big.NewRat(1, by))} {
				for _, a := range forms(fraction(w)) {
					if z, ok := root.Exact(a); ok || !none(z) {
						t.Error(v, by, rat.Text(z), ok)
					}
				}
			}
		}
	}
}

func TestExactOfNought(t *testing.T) {
	for _, a := range append(forms(rat.Of(0, 1)), api.Rat{}, api.Rat{P: api.Int{Neg: true}}, api.Rat{P: api.Int{Neg: true, N: []uint64{0, 0}}, Q: []uint64{3}}) {
		if z, ok := root.Exact(a); !ok || !is(z, new(big.Rat)) {
			t.Error(a, z, ok)
		}
	}
}

// Where the exact root is a whole number of parts, both bounds are it.
func TestExactLiesBetween(t *testing.T) {
	for _, v := range bases() {
		a := fraction(square(v))
		z, _ := root.Exact(a)
		for _, k := range []int{0, 1, 64, 4096} {
			low, _ := root.Low(a, k)
			high, _ := root.High(a, k)
			if rat.Cmp(low, z) > 0 || rat.Cmp(z, high) > 0 {
				t.Error(v, k)
			}
			if whole := product(v, power(k)).IsInt(); whole != (rat.Cmp(low, high) == 0) {
				t.Error(v, k, rat.Text(low), rat.Text(high))
			}
		}
	}
}
