package zed_test

import (
	"math"
	"math/big"
	"testing"

	"gesso/api"
	"gesso/zed"
)

// P2.2 and P2.4: DivMod.

func TestDivModCutsDownward(t *testing.T) {
	for i, x := range []struct{ a, b, q, r int64 }{
		{7, 2, 3, 1},
		{-7, 2, -4, 1},
		{7, -2, -4, -1},
		{-7, -2, 3, -1},
		{6, 2, 3, 0},
		{-6, 2, -3, 0},
		{6, -2, -3, 0},
		{-6, -2, 3, 0},
		{1, 5, 0, 1},
		{-1, 5, -1, 4},
		{1, -5, -1, -4},
		{-1, -5, 0, -1},
		{0, 5, 0, 0},
		{0, -5, 0, 0},
		{math.MinInt64, math.MaxInt64, -2, math.MaxInt64 - 1},
		{math.MaxInt64, math.MinInt64, -1, -1},
		{math.MinInt64 + 1, math.MinInt64, 0, math.MinInt64 + 1},
		{math.MinInt64, 1, math.MinInt64, 0},
	} {
		q, r, e := zed.DivMod(zed.Of(x.a), zed.Of(x.b))
		if e != api.OK || !is(q, big.NewInt(x.q)) || !is(r, big.NewInt(x.r)) {
			t.Error(i, x, q, r, e)
		}
	}
	if q, r, e := zed.DivMod(zed.Of(math.MinInt64), zed.Of(-1)); e != api.OK || !is(q, new(big.Int).Lsh(big.NewInt(1), 63)) || !none(r) {
		t.Error(q, r, e)
	}
}

// The document's own words: with b above 0 q b is not above a and (q+1) b is,
// with b below 0 q b is not below a and (q+1) b is.
func TestDivModGreatest(t *testing.T) {
	one := big.NewInt(1)
	for i, a := range numbers() {
		for k, b := range numbers() {
			if len(b.N) == 0 {
				continue
			}
			p, v := toBig(a), toBig(b)
			for j, x := range forms(a) {
				q, r, e := zed.DivMod(x, forms(b)[j%3])
				back := new(big.Int).Mul(toBig(q), v)
				next := new(big.Int).Mul(new(big.Int).Add(toBig(q), one), v)
				if e != api.OK || back.Cmp(p)*v.Sign() > 0 || next.Cmp(p)*v.Sign() <= 0 {
					t.Error(i, k, j, q, e)
				}
				if !zed.Good(q) || !is(r, new(big.Int).Sub(p, back)) {
					t.Error(i, k, j, q, r)
				}
			}
		}
	}
}

func TestDivModByNought(t *testing.T) {
	for _, a := range numbers() {
		for _, b := range forms(api.Int{}) {
			if q, r, e := zed.DivMod(a, b); !none(q) || !none(r) || e != api.ErrZero {
				t.Error(a, b, q, r, e)
			}
		}
	}
}

func TestQuotientTimesDivisorAndRest(t *testing.T) {
	for i, a := range numbers() {
		for k, b := range numbers() {
			q, r, e := zed.DivMod(a, b)
			if e != api.OK {
				continue
			}
			if back := zed.Add(zed.Mul(q, b), r); zed.Cmp(back, a) != 0 {
				t.Error(i, k, q, r)
			}
			if s := zed.Sign(r); s != 0 && s != zed.Sign(b) || zed.Cmp(api.Int{N: r.N}, api.Int{N: b.N}) >= 0 {
				t.Error(i, k, r)
			}
		}
	}
}
