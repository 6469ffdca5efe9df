package root_test

import (
	"math"
	"math/big"
	"testing"

	"gesso/api"
	"gesso/rat"
	"gesso/root"
)

// P4.1, and P4.3, which follows: Low, High.

// someK are those that may be, the least and the greatest among them.
var someK = []int{0, 1, 2, 3, 31, 32, 33, 63, 64, 65, 1000, 4095, 4096}

// wrongK are those that may not be.
var wrongK = []int{-1, -2, -64, -4096, math.MinInt, math.MinInt + 1, math.MinInt32, 4097, 4098, 8192, 1 << 20, math.MaxInt32, 1 << 62, 1<<62 + 1, 1<<63 - 1}

func TestBoundsOfFew(t *testing.T) {
	for i, x := range []struct {
		p, q      int64
		k         int
		low, high string
	}{
		{2, 1, 0, "1", "2"},
		{2, 1, 1, "1", "3/2"},
		{2, 1, 2, "5/4", "3/2"},
		{2, 1, 3, "11/8", "3/2"},
		{0, 1, 0, "0", "0"},
		{0, 1, 4096, "0", "0"},
		{1, 1, 0, "1", "1"},
		{1, 1, 9, "1", "1"},
		{3, 1, 0, "1", "2"},
		{4, 1, 0, "2", "2"},
		{5, 1, 0, "2", "3"},
		{8, 1, 0, "2", "3"},
		{9, 1, 0, "3", "3"},
		{1, 4, 0, "0", "1"},
		{1, 4, 1, "1/2", "1/2"},
		{9, 4, 0, "1", "2"},
		{9, 4, 1, "3/2", "3/2"},
		{1, 3, 0, "0", "1"},
		{1, 3, 1, "1/2", "1"},
		{10, 3, 0, "1", "2"},
		{4, 9, 3, "5/8", "3/4"},
		{1, 100, 3, "0", "1/8"},
		{1, math.MaxInt64, 4, "0", "1/16"},
		{math.MaxInt64, 1, 0, "3037000499", "3037000500"},
		{math.MinInt64, -1, 0, "3037000499", "3037000500"},
		{math.MinInt64, math.MinInt64, 5, "1", "1"},
	} {
		a := rat.Of(x.p, x.q)
		low, e := root.Low(a, x.k)
		high, f := root.High(a, x.k)
		if e != api.OK || f != api.OK || rat.Text(low) != x.low || rat.Text(high) != x.high {
			t.Error(i, rat.Text(low), rat.Text(high), e, f)
		}
	}
}

// checkBounds holds both against the document's own words: v is at least the
// square of Low's parts, and below the next one; at most that of High's, and
// above the one ahead.
func checkBounds(t *testing.T, v *big.Rat, a api.Rat, k int) {
	t.Helper()
	one := big.NewInt(1)
	low, e := root.Low(a, k)
	high, f := root.High(a, k)
	if e != api.OK || f != api.OK {
		t.Fatal(v, k, e, f)
	}
	l, h := parts(t, low, k), parts(t, high, k)
	// p over q in parts' squares, so that only whole numbers are compared
	p, q := new(big.Int).Lsh(v.Num(), uint(2*k)), v.Denom()
	to := func(m *big.Int) int {
		return new(big.Int).Mul(new(big.Int).Mul(m, m), q).Cmp(p)
	}
	if to(l) > 0 || to(new(big.Int).Add(l, one)) <= 0 {
		t.Error(v, k, "low", low)
	}
	if to(h) < 0 || h.Sign() > 0 && to(new(big.Int).Sub(h, one)) >= 0 {
		t.Error(v, k, "high", high)
	}
	// P4.3
	step := rat.Sub(high, low)
	if even := to(l) == 0; even && rat.Sign(step) != 0 || !even && !is(step, power(-k)) {
		t.Error(v, k, rat.Text(step))
	}
}

func TestBounds(t *testing.T) {
	for _, v := range bases() {
		a := fraction(v)
		for _, k := range someK {
			checkBounds(t, v, a, k)
		}
	}
}

// Of all small fractions.
func TestBoundsOfSmall(t *testing.T) {
	for p := range int64(70) {
		for q := int64(1); q < 20; q++ {
			v := big.NewRat(p, q)
			for k := range 5 {
				checkBounds(t, v, fraction(v), k)
			}
		}
	}
}

// Where the root is a whole number of parts, is just above that, just below.
func TestBoundsBesideWholeParts(t *testing.T) {
	limb := new(big.Rat).SetInt(new(big.Int).SetUint64(math.MaxUint64))
	for _, k := range someK {
		for _, m := range []*big.Rat{new(big.Rat), big.NewRat(1, 1), big.NewRat(2, 1), big.NewRat(3, 1), big.NewRat(1000, 1), limb, power(64), power(k), product(power(k), big.NewRat(77, 1))} {
			v := square(product(m, power(-k)))
			for _, w := range beside(v) {
				checkBounds(t, w, fraction(w), k)
			}
		}
	}
}

func TestBoundsOfNoGoodFraction(t *testing.T) {
	for _, v := range bases() {
		for j, a := range forms(fraction(v)) {
			checkBounds(t, v, a, someK[j%11])
			checkBounds(t, v, a, someK[(j+5)%11])
		}
	}
	for _, a := range []api.Rat{{}, {P: api.Int{Neg: true}}, {P: api.Int{Neg: true, N: []uint64{0}}, Q: []uint64{4}}} {
		for _, k := range someK {
			checkBounds(t, new(big.Rat), a, k)
		}
	}
}

// checkErrors holds that Low and High answer that error, and nothing else.
func checkErrors(t *testing.T, a api.Rat, k int, want api.Errno) {
	t.Helper()
	if low, e := root.Low(a, k); e != want || !none(low) {
		t.Error(a, k, low, e)
	}
	if high, e := root.High(a, k); e != want || !none(high) {
		t.Error(a, k, high, e)
	}
}

func TestBoundsBelowNought(t *testing.T) {
	for _, v := range bases() {
		if v.Sign() == 0 {
			continue
		}
		for j, a := range forms(fraction(new(big.Rat).Neg(v))) {
			checkErrors(t, a, someK[j%len(someK)], api.ErrBelow)
		}
	}
	for _, k := range someK {
		checkErrors(t, rat.Of(-1, 1), k, api.ErrBelow)
		checkErrors(t, rat.Of(1, math.MinInt64), k, api.ErrBelow)
		checkErrors(t, api.Rat{P: api.Int{Neg: true, N: []uint64{4, 0}}}, k, api.ErrBelow)
	}
}

// A k that may not be is named first, whatever a is.
func TestBoundsByWrongK(t *testing.T) {
	for _, v := range bases() {
		for _, w := range []*big.Rat{v, new(big.Rat).Neg(v)} {
			for j, a := range forms(fraction(w)) {
				checkErrors(t, a, wrongK[j%len(wrongK)], api.ErrArg)
			}
		}
	}
	for _, k := range wrongK {
		for _, a := range []api.Rat{{}, {P: api.Int{Neg: true}}, rat.Of(2, 1), rat.Of(4, 1), rat.Of(-4, 1), rat.Of(-1, 3)} {
			checkErrors(t, a, k, api.ErrArg)
		}
	}
}
