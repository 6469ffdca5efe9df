package nat_test

import (
	"math/big"
	"slices"
	"testing"

	"gesso/api"
	"gesso/nat"
)

// P1.2: Add, Mul, Sub, DivMod, Gcd, Sqrt.

func TestAddMulSub(t *testing.T) {
	for i, x := range pairs() {
		a, b := toBig(x[0]), toBig(x[1])
		if !is(nat.Add(x[0], x[1]), new(big.Int).Add(a, b)) {
			t.Error(i, "sum")
		}
		if !is(nat.Mul(x[0], x[1]), new(big.Int).Mul(a, b)) {
			t.Error(i, "product")
		}
		less, e := nat.Sub(x[0], x[1])
		if a.Cmp(b) < 0 {
			if len(less) != 0 || e != api.ErrBelow {
				t.Error(i, less, e)
			}
		} else if e != api.OK || !is(less, new(big.Int).Sub(a, b)) {
			t.Error(i, less, e)
		}
	}
}

func TestCarries(t *testing.T) {
	if p := nat.Mul([]uint64{top}, []uint64{top}); !slices.Equal(p, []uint64{1, top - 1}) {
		t.Error(p)
	}
	if s := nat.Add([]uint64{1}, []uint64{top, top, top}); !slices.Equal(s, []uint64{0, 0, 0, 1}) {
		t.Error(s)
	}
	if d, e := nat.Sub([]uint64{0, 0, 0, 1}, []uint64{1}); e != api.OK || !slices.Equal(d, []uint64{top, top, top}) {
		t.Error(d, e)
	}
	if d, e := nat.Sub([]uint64{5, 5, 0}, []uint64{5, 5}); e != api.OK || len(d) != 0 {
		t.Error(d, e)
	}
	if d, e := nat.Sub([]uint64{4, 5}, []uint64{5, 5, 0}); e != api.ErrBelow || len(d) != 0 {
		t.Error(d, e)
	}
}

func TestMulOfAllLengths(t *testing.T) {
	d := dice(3)
	for n := 0; n < 200; n += 7 {
		for m := 0; m <= n; m += 5 {
			a, b := d.number(n), d.number(m)
			want := new(big.Int).Mul(toBig(a), toBig(b))
			if !is(nat.Mul(a, b), want) || !is(nat.Mul(b, a), want) {
				t.Error(n, m)
			}
		}
	}
}

func TestDivMod(t *testing.T) {
	for i, x := range pairs() {
		a, b := toBig(x[0]), toBig(x[1])
		q, r, e := nat.DivMod(x[0], x[1])
		if b.Sign() == 0 {
			if len(q) != 0 || len(r) != 0 || e != api.ErrZero {
				t.Error(i, q, r, e)
			}
			continue
		}
		quotient, rest := new(big.Int).QuoRem(a, b, new(big.Int))
		if e != api.OK || !is(q, quotient) || !is(r, rest) {
			t.Error(i, q, r, e)
		}
	}
}

func TestDivModByNought(t *testing.T) {
	for _, a := range [][]uint64{nil, {0}, {5}, {1, 2, 3}} {
		for _, b := range [][]uint64{nil, {}, {0}, {0, 0, 0}} {
			if q, r, e := nat.DivMod(a, b); len(q) != 0 || len(r) != 0 || e != api.ErrZero {
				t.Error(a, b, q, r, e)
			}
		}
	}
}

// Where the first guess of a quotient's limb is off by one, or by two, or
// the two highest limbs are alike.
func TestDivModGuesses(t *testing.T) {
	edge := []uint64{0, 1, 2, 1<<63 - 1, 1 << 63, 1<<63 + 1, top - 1, top}
	for _, a2 := range edge {
		for _, a1 := range edge {
			for _, b1 := range edge {
				for _, b0 := range edge {
					for _, a := range [][]uint64{{0, a1, a2}, {top, a1, a2}, {0, 0, a1, a2}, {3, 0, top, a1, a2}} {
						checkDivMod(t, a, []uint64{b0, b1})
						checkDivMod(t, a, []uint64{1, b0, b1})
					}
				}
			}
		}
	}
}

func checkDivMod(t *testing.T, a, b []uint64) {
	t.Helper()
	v := toBig(b)
	if v.Sign() == 0 {
		return
	}
	quotient, rest := new(big.Int).QuoRem(toBig(a), v, new(big.Int))
	if q, r, e := nat.DivMod(a, b); e != api.OK || !is(q, quotient) || !is(r, rest) {
		t.Error(a, b, q, r, e)
	}
}

func TestGcd(t *testing.T) {
	for i, x := range []struct{ a, b, g []uint64 }{{nil, nil, nil}, {[]uint64{0}, []uint64{0, 0}, nil}, {nil, []uint64{5}, []uint64{5}}, {[]uint64{0, 0}, []uint64{1, 2, 3, 0}, []uint64{1, 2, 3}}, {[]uint64{12}, []uint64{18}, []uint64{6}}, {[]uint64{1}, []uint64{top, top}, []uint64{1}}, {[]uint64{top}, []uint64{top, top}, []uint64{top}}, {[]uint64{0, 6}, []uint64{0, 0, 4}, []uint64{0, 2}}} {
		if g, h := nat.Gcd(x.a, x.b), nat.Gcd(x.b, x.a); !slices.Equal(g, x.g) || !slices.Equal(h, x.g) {
			t.Error(i, g, h)
		}
	}
	for i, x := range pairs() {
		a, b := toBig(x[0]), toBig(x[1])
		if !is(nat.Gcd(x[0], x[1]), new(big.Int).GCD(nil, nil, a, b)) {
			t.Error(i)
		}
	}
}

// Fibonacci's numbers make Euclid's steps as many as can be; times a common
// one it must come out.
func TestGcdOfFibonacci(t *testing.T) {
	x, y, c := big.NewInt(1), big.NewInt(1), toBig([]uint64{7, 0, top, 3})
	for i := range 1000 {
		x.Add(x, y)
		x, y = y, x
		if g := nat.Gcd(toLimbs(x), toLimbs(y)); !slices.Equal(g, []uint64{1}) {
			t.Fatal(i, g)
		}
		a, b := new(big.Int).Mul(x, c), new(big.Int).Mul(y, c)
		if !is(nat.Gcd(toLimbs(a), toLimbs(b)), c) {
			t.Fatal(i)
		}
	}
}

func TestSqrt(t *testing.T) {
	for v := range uint64(3000) {
		if s := nat.Sqrt(nat.Of(v)); !is(s, new(big.Int).Sqrt(new(big.Int).SetUint64(v))) {
			t.Error(v, s)
		}
	}
	one := big.NewInt(1)
	for i, a := range numbers() {
		v := toBig(a)
		if !is(nat.Sqrt(a), new(big.Int).Sqrt(v)) {
			t.Error(i)
		}
		square := new(big.Int).Mul(v, v)
		if !is(nat.Sqrt(toLimbs(square)), v) {
			t.Error(i, "square")
		}
		if v.Sign() == 0 {
			continue
		}
		if !is(nat.Sqrt(toLimbs(new(big.Int).Sub(square, one))), new(big.Int).Sub(v, one)) {
			t.Error(i, "below the square")
		}
		last := new(big.Int).Add(square, new(big.Int).Lsh(v, 1))
		if !is(nat.Sqrt(toLimbs(last)), v) {
			t.Error(i, "below the next square")
		}
	}
}
