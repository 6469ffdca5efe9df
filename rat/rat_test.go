package rat_test

import (
	"math"
	"math/big"
	"testing"

	"gesso/api"
	"gesso/rat"
	"gesso/zed"
)

// P3.1: Good, Of, Make, Cmp, Sign, Neg, Abs, Add, Sub, Mul, Div.

func TestGood(t *testing.T) {
	whole := func(neg bool, limbs ...uint64) api.Int { return api.Int{Neg: neg, N: limbs} }
	for i, x := range []struct {
		a    api.Rat
		good bool
	}{
		{api.Rat{Q: []uint64{1}}, true},
		{api.Rat{P: whole(false), Q: []uint64{1}}, true},
		{api.Rat{P: whole(false, 5), Q: []uint64{1}}, true},
		{api.Rat{P: whole(true, 5), Q: []uint64{7}}, true},
		{api.Rat{P: whole(true, 0, 1), Q: []uint64{7, 9}}, true},
		{api.Rat{}, false},
		{api.Rat{Q: []uint64{}}, false},
		{api.Rat{Q: []uint64{0}}, false},
		{api.Rat{Q: []uint64{2}}, false},
		{api.Rat{Q: []uint64{1, 0}}, false},
		{api.Rat{P: whole(true), Q: []uint64{1}}, false},
		{api.Rat{P: whole(false, 0), Q: []uint64{1}}, false},
		{api.Rat{P: whole(true, 0), Q: []uint64{1}}, false},
		{api.Rat{P: whole(false, 1)}, false},
		{api.Rat{P: whole(false, 1), Q: []uint64{}}, false},
		{api.Rat{P: whole(true, 1), Q: []uint64{0}}, false},
		{api.Rat{P: whole(false, 1, 0), Q: []uint64{1}}, false},
		{api.Rat{P: whole(false, 1), Q: []uint64{2, 0}}, false},
		{api.Rat{P: whole(false, 2), Q: []uint64{4}}, false},
		{api.Rat{P: whole(true, 2), Q: []uint64{2}}, false},
		{api.Rat{P: whole(true, 0, 6), Q: []uint64{9}}, false},
	} {
		if rat.Good(x.a) != x.good {
			t.Error(i, x.a)
		}
	}
	for i, a := range numbers() {
		for j, b := range forms(a) {
			if rat.Good(b) != (j == 0) {
				t.Error(i, j, b)
			}
		}
	}
}

var someInt64 = []int64{math.MinInt64, math.MinInt64 + 1, math.MinInt64 + 2, -1 << 62, -1 << 32, -12, -7, -6, -4, -1, 0, 1, 2, 6, 9, 1 << 32, 1 << 62, math.MaxInt64 - 1, math.MaxInt64}

func TestOf(t *testing.T) {
	for _, p := range someInt64 {
		for _, q := range someInt64 {
			want := big.NewRat(p, 1)
			if q != 0 {
				want.SetFrac(big.NewInt(p), big.NewInt(q))
			}
			if a := rat.Of(p, q); !is(a, want) {
				t.Error(p, q, a)
			}
		}
	}
	if a := rat.Of(6, -4); !a.P.Neg || a.P.N[0] != 3 || a.Q[0] != 2 {
		t.Error(a)
	}
}

func TestMake(t *testing.T) {
	for i, x := range numbers() {
		for j, y := range numbers() {
			for k, p := range forms(x) {
				// limbs as they come, lowest terms or not, and both signs of q
				ys := forms(y)
				q := ys[(i+j+k)%len(ys)].P
				if len(y.P.N) == 0 {
					if a, e := rat.Make(p.P, q); !none(a) || e != api.ErrZero {
						t.Error(i, j, k, a, e)
					}
					continue
				}
				want := new(big.Rat).SetFrac(toInt(p.P), toInt(q))
				if a, e := rat.Make(p.P, q); e != api.OK || !is(a, want) {
					t.Error(i, j, k, a, e)
				}
			}
		}
	}
	if a, e := rat.Make(zed.Of(0), zed.Of(-5)); e != api.OK || !is(a, new(big.Rat)) {
		t.Error(a, e)
	}
}

func TestMakeByNought(t *testing.T) {
	for _, p := range []api.Int{{}, zed.Of(3), zed.Of(-3), {N: []uint64{0, 0}}, {Neg: true}, {N: []uint64{0, 0, 5}}} {
		for _, q := range []api.Int{{}, {Neg: true}, {N: []uint64{}}, {N: []uint64{0}}, {Neg: true, N: []uint64{0, 0}}} {
			if a, e := rat.Make(p, q); !none(a) || e != api.ErrZero {
				t.Error(p, q, a, e)
			}
		}
	}
}

func TestCmpAndSign(t *testing.T) {
	for i, a := range numbers() {
		for j, x := range forms(a) {
			if s := rat.Sign(x); s != toBig(a).Sign() {
				t.Error(i, j, s)
			}
		}
		for k, b := range numbers() {
			want := toBig(a).Cmp(toBig(b))
			for _, x := range forms(a) {
				for _, y := range forms(b) {
					if c := rat.Cmp(x, y); c != want {
						t.Error(i, k, x, y, c)
					}
				}
			}
		}
	}
}

func TestNegAndAbs(t *testing.T) {
	for i, a := range numbers() {
		neg, abs := new(big.Rat).Neg(toBig(a)), new(big.Rat).Abs(toBig(a))
		for j, x := range forms(a) {
			if b := rat.Neg(x); !is(b, neg) {
				t.Error(i, j, b)
			}
			if b := rat.Abs(x); !is(b, abs) {
				t.Error(i, j, b)
			}
		}
	}
}

func TestAddSubMul(t *testing.T) {
	for i, a := range numbers() {
		p := toBig(a)
		for k, b := range numbers() {
			q := toBig(b)
			sum, rest, product := new(big.Rat).Add(p, q), new(big.Rat).Sub(p, q), new(big.Rat).Mul(p, q)
			ys := forms(b)
			for j, x := range forms(a) {
				for _, y := range []api.Rat{ys[0], ys[j%len(ys)], ys[(i+j+k)%len(ys)]} {
					if !is(rat.Add(x, y), sum) || !is(rat.Sub(x, y), rest) || !is(rat.Mul(x, y), product) {
						t.Error(i, k, x, y)
					}
				}
			}
		}
	}
}

func TestDiv(t *testing.T) {
	for i, a := range numbers() {
		for k, b := range numbers() {
			if len(b.P.N) == 0 {
				continue
			}
			want := new(big.Rat).Quo(toBig(a), toBig(b))
			ys := forms(b)
			for j, x := range forms(a) {
				for _, y := range []api.Rat{ys[0], ys[j%len(ys)], ys[(i+j+k)%len(ys)]} {
					if q, e := rat.Div(x, y); e != api.OK || !is(q, want) {
						t.Error(i, k, x, y, q, e)
					}
				}
			}
		}
	}
}

func TestDivByNought(t *testing.T) {
	for i, a := range numbers() {
		for _, x := range forms(a) {
			for j, y := range forms(api.Rat{Q: []uint64{1}}) {
				if q, e := rat.Div(x, y); !none(q) || e != api.ErrZero {
					t.Error(i, j, x, y, q, e)
				}
			}
			if q, e := rat.Div(x, api.Rat{}); !none(q) || e != api.ErrZero {
				t.Error(i, x, q, e)
			}
		}
	}
}

// A lower number that is 0, or none, counts as 1 in all calls.
func TestNoLowerNumber(t *testing.T) {
	half := rat.Of(1, 2)
	for _, lower := range [][]uint64{nil, {}, {0}, {0, 0}} {
		a := api.Rat{P: zed.Of(-9), Q: lower}
		quotient, e := rat.Div(half, a)
		other, f := rat.Div(a, half)
		for i, x := range []struct {
			a    api.Rat
			want *big.Rat
		}{
			{rat.Neg(a), big.NewRat(9, 1)},
			{rat.Abs(a), big.NewRat(9, 1)},
			{rat.Add(a, half), big.NewRat(-17, 2)},
			{rat.Add(half, a), big.NewRat(-17, 2)},
			{rat.Sub(a, half), big.NewRat(-19, 2)},
			{rat.Sub(a, a), new(big.Rat)},
			{rat.Mul(a, half), big.NewRat(-9, 2)},
			{rat.Mul(a, a), big.NewRat(81, 1)},
			{quotient, big.NewRat(-1, 18)},
			{other, big.NewRat(-18, 1)},
		} {
			if !is(x.a, x.want) {
				t.Error(lower, i, x.a)
			}
		}
		if e != api.OK || f != api.OK || rat.Sign(a) != -1 || rat.Cmp(a, rat.Of(-9, 1)) != 0 || rat.Cmp(a, half) != -1 || rat.Text(a) != "-9" {
			t.Error(lower, e, f)
		}
		if !isWhole(rat.Floor(a), big.NewInt(-9)) || !isWhole(rat.Ceil(a), big.NewInt(-9)) {
			t.Error(lower)
		}
	}
}
