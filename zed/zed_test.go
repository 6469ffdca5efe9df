package zed_test

import (
	"math"
	"math/big"
	"testing"

	"gesso/api"
	"gesso/zed"
)

// P2.1: Good, Of, Cmp, Sign, Neg, Add, Sub, Mul, Small.

func TestGood(t *testing.T) {
	for i, x := range []struct {
		a    api.Int
		good bool
	}{
		{api.Int{}, true},
		{api.Int{N: []uint64{}}, true},
		{api.Int{N: []uint64{1}}, true},
		{api.Int{Neg: true, N: []uint64{1}}, true},
		{api.Int{Neg: true, N: []uint64{0, 1}}, true},
		{api.Int{Neg: true}, false},
		{api.Int{Neg: true, N: []uint64{}}, false},
		{api.Int{N: []uint64{0}}, false},
		{api.Int{Neg: true, N: []uint64{0, 0}}, false},
		{api.Int{N: []uint64{1, 0}}, false},
		{api.Int{Neg: true, N: []uint64{1, 0}}, false},
	} {
		if zed.Good(x.a) != x.good {
			t.Error(i, x.a)
		}
	}
	for i, a := range numbers() {
		for j, b := range forms(a) {
			if zed.Good(b) != (j == 0) {
				t.Error(i, j, b)
			}
		}
	}
}

var someInt64 = []int64{math.MinInt64, math.MinInt64 + 1, math.MinInt64 + 2, -1 << 32, -8, -7, -1, 0, 1, 2, 9, 1 << 32, math.MaxInt64 - 1, math.MaxInt64}

func TestOfAndSmall(t *testing.T) {
	for _, v := range someInt64 {
		a := zed.Of(v)
		if !is(a, big.NewInt(v)) {
			t.Error(v, a)
		}
		for _, b := range forms(a) {
			if back, ok := zed.Small(b); back != v || !ok {
				t.Error(v, b, back, ok)
			}
		}
	}
}

func TestSmallOfNone(t *testing.T) {
	if v, ok := zed.Small(api.Int{Neg: true, N: []uint64{1 << 63}}); v != math.MinInt64 || !ok {
		t.Error(v, ok)
	}
	for i, a := range numbers() {
		want := toBig(a)
		for j, b := range forms(a) {
			v, ok := zed.Small(b)
			if ok != want.IsInt64() || ok && v != want.Int64() || !ok && v != 0 {
				t.Error(i, j, v, ok)
			}
		}
	}
}

func TestCmpAndSign(t *testing.T) {
	for i, a := range numbers() {
		for j, x := range forms(a) {
			if s := zed.Sign(x); s != toBig(a).Sign() {
				t.Error(i, j, s)
			}
		}
		for k, b := range numbers() {
			want := toBig(a).Cmp(toBig(b))
			for _, x := range forms(a) {
				for _, y := range forms(b) {
					if c := zed.Cmp(x, y); c != want {
						t.Error(i, k, x, y, c)
					}
				}
			}
		}
	}
}

func TestNegAddSubMul(t *testing.T) {
	for i, a := range numbers() {
		p := toBig(a)
		for j, x := range forms(a) {
			if n := zed.Neg(x); !is(n, new(big.Int).Neg(p)) {
				t.Error(i, j, n)
			}
		}
		for k, b := range numbers() {
			q := toBig(b)
			for _, x := range forms(a) {
				for _, y := range forms(b) {
					if !is(zed.Add(x, y), new(big.Int).Add(p, q)) || !is(zed.Sub(x, y), new(big.Int).Sub(p, q)) || !is(zed.Mul(x, y), new(big.Int).Mul(p, q)) {
						t.Error(i, k, x, y)
					}
				}
			}
		}
	}
}
