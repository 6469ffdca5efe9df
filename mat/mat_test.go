package mat_test

import (
	"math"
	"math/big"
	"testing"

	"gesso/api"
	"gesso/mat"
	"gesso/rat"
)

// P9.1: One, Of, Apply, Mul, Same.

func TestOne(t *testing.T) {
	one := mat.One()
	if !isMap(one, squareBy("1 0 0 1 0 0")) {
		t.Error(one)
	}
	for _, v := range points() {
		for n := range 20 {
			if p := mat.Apply(one, shaped(point(v[0], v[1]), n)); !isPoint(p, v[0], v[1]) {
				t.Error(v, n, p)
			}
		}
	}
}

var someInt64 = []int64{math.MinInt64, math.MinInt64 + 1, -1 << 32, -65536, -65535, -128, -64, -1, 0, 1, 2, 63, 64, 65, 96, 65535, 65536, 65537, 1 << 32, math.MaxInt64 - 1, math.MaxInt64}

// units are by what Of takes each place.
var units = [6]int64{65536, 65536, 65536, 65536, 64, 64}

func TestOfInEachPlace(t *testing.T) {
	for i := range 6 {
		for j, n := range someInt64 {
			for _, others := range []int64{0, 5, math.MinInt64} {
				v := [6]int64{others, others, others, others, others, others}
				v[i] = n
				var want []*big.Rat
				for k := range 6 {
					want = append(want, big.NewRat(v[k], units[k]))
				}
				if m := mat.Of(v); !isMap(m, squareOf(want)) {
					t.Error(i, j, others, m)
				}
			}
		}
	}
}

func TestOfFew(t *testing.T) {
	for i, x := range []struct {
		v [6]int64
		s string
	}{
		{[6]int64{}, "0 0 0 0 0 0"},
		{[6]int64{65536, 0, 0, 65536, 64, 0}, "1 0 0 1 1 0"},
		{[6]int64{65536, 2 * 65536, 3 * 65536, 4 * 65536, 5 * 64, 6 * 64}, "1 2 3 4 5 6"},
		{[6]int64{1, -2, 3, -4, 5, -6}, "1/65536 -1/32768 3/65536 -1/16384 5/64 -3/32"},
		{[6]int64{32768, -32768, 64, -64, 32, -65536}, "1/2 -1/2 1/1024 -1/1024 1/2 -1024"},
		{[6]int64{math.MinInt64, math.MaxInt64, math.MinInt64, math.MaxInt64, math.MinInt64, math.MaxInt64}, "-140737488355328 9223372036854775807/65536 -140737488355328 9223372036854775807/65536 -144115188075855872 9223372036854775807/64"},
	} {
		if m := mat.Of(x.v); text(m) != x.s || !isMap(m, squareBy(x.s)) {
			t.Error(i, text(m))
		}
	}
}

func TestApplyOfFew(t *testing.T) {
	m := mat.Of([6]int64{2 * 65536, 65536, -65536, 3 * 65536, 64, -32})
	right := mat.Of([6]int64{65536, 0, 0, 65536, 64, 0})
	for i, x := range []struct {
		m    api.Mat
		p    api.Pt
		x, y string
	}{
		{m, whole(0, 0), "1", "-1/2"},
		{m, api.Pt{}, "1", "-1/2"},
		{m, whole(1, 0), "3", "1/2"},
		{m, whole(0, 1), "0", "5/2"},
		{m, whole(-1, -2), "1", "-15/2"},
		{m, api.Pt{X: rat.Of(1, 2), Y: rat.Of(1, 3)}, "5/3", "1"},
		{right, whole(0, 0), "1", "0"},
		{right, whole(-1, 5), "0", "5"},
		{api.Mat{}, whole(3, 4), "0", "0"},
		{api.Mat{}, api.Pt{}, "0", "0"},
		{mat.Of([6]int64{0, 65536, -65536, 0, 0, 0}), whole(3, 4), "-4", "3"},
		{mat.Of([6]int64{-65536, 0, 0, 65536, 0, 0}), whole(3, 4), "-3", "4"},
		{mat.Of([6]int64{0, 0, 0, 0, 64, 128}), whole(3, 4), "1", "2"},
	} {
		if p := mat.Apply(x.m, x.p); !isPoint(p, number(x.x), number(x.y)) {
			t.Error(i, p)
		}
	}
}

func TestApply(t *testing.T) {
	for i, m := range allMaps() {
		for k, v := range points() {
			x, y := m.brought(v)
			for n := range 12 {
				if p := mat.Apply(shapedMap(m.given(), n*(i+1)), shaped(point(v[0], v[1]), n+k)); !isPoint(p, x, y) {
					t.Error(i, k, n, p)
				}
			}
		}
	}
}

// One entry alone, or one part of the point, is not good.
func TestApplyOfAllForms(t *testing.T) {
	v := [2]*big.Rat{big.NewRat(2, 3), big.NewRat(0, 1)}
	for i, m := range allMaps() {
		x, y := m.brought(v)
		p := point(v[0], v[1])
		for k, a := range inOneForm(m.given()) {
			if q := mat.Apply(a, p); !isPoint(q, x, y) {
				t.Error(i, k, q)
			}
		}
		for _, a := range forms(p.X) {
			for _, b := range forms(p.Y) {
				if q := mat.Apply(m.given(), api.Pt{X: a, Y: b}); !isPoint(q, x, y) {
					t.Error(i, a, b, q)
				}
			}
		}
	}
}

func TestMulOfFew(t *testing.T) {
	for i, x := range []struct{ m, n, mn, nm string }{
		{"1 0 0 1 0 0", "1 2 3 4 5 6", "1 2 3 4 5 6", "1 2 3 4 5 6"},
		{"1 0 0 1 10 20", "1 2 3 4 5 6", "1 2 3 4 15 26", "1 2 3 4 75 106"},
		{"2 0 0 3 0 0", "1 2 3 4 5 6", "2 6 6 12 10 18", "2 4 9 12 5 6"},
		{"2 0 0 2 0 0", "1 2 3 4 0 0", "2 4 6 8 0 0", "2 4 6 8 0 0"},
		{"0 1 -1 0 0 0", "1 2 3 4 5 6", "-2 1 -4 3 -6 5", "3 4 -1 -2 5 6"},
		{"0 1 -1 0 0 0", "3/5 4/5 -4/5 3/5 0 0", "-4/5 3/5 -3/5 -4/5 0 0", "-4/5 3/5 -3/5 -4/5 0 0"},
		{"0 1 -1 0 0 0", "1 0 0 -1 0 0", "0 1 1 0 0 0", "0 -1 -1 0 0 0"},
		{"1 0 0 1 1 2", "1 0 0 1 -5 1/2", "1 0 0 1 -4 5/2", "1 0 0 1 -4 5/2"},
		{"0 0 0 0 0 0", "1 2 3 4 5 6", "0 0 0 0 0 0", "0 0 0 0 5 6"},
		{"0 0 0 0 7 8", "1 2 3 4 5 6", "0 0 0 0 7 8", "0 0 0 0 36 52"},
		{"1 2 3 4 5 6", "1 2 3 4 5 6", "7 10 15 22 28 40", "7 10 15 22 28 40"},
	} {
		m, n := squareBy(x.m).given(), squareBy(x.n).given()
		if a := mat.Mul(m, n); text(a) != x.mn {
			t.Error(i, text(a))
		}
		if a := mat.Mul(n, m); text(a) != x.nm {
			t.Error(i, text(a))
		}
	}
}

func TestMul(t *testing.T) {
	differ, alike := 0, 0
	for i, m := range allMaps() {
		for k, n := range allMaps() {
			want := m.times(n)
			for f := range 5 {
				if a := mat.Mul(shapedMap(m.given(), f*(i+1)), shapedMap(n.given(), f*(k+2))); !isMap(a, want) {
					t.Error(i, k, f, text(a))
				}
			}
			same := want.equal(n.times(m))
			if mat.Same(mat.Mul(m.given(), n.given()), mat.Mul(n.given(), m.given())) != same {
				t.Error(i, k, "orders")
			}
			if same && i != k && i != 0 && k != 0 {
				alike++
			} else if !same {
				differ++
			}
		}
	}
	if differ == 0 || alike == 0 {
		t.Error("the test itself", differ, alike)
	}
}

func TestMulOfAllForms(t *testing.T) {
	m, n := squareBy("0 -2 7 5 1/3 0"), squareBy("-22/7 0 5/3 -1 0 1")
	want := m.times(n)
	for i, a := range inOneForm(m.given()) {
		for k, b := range inOneForm(n.given()) {
			if c := mat.Mul(a, b); !isMap(c, want) {
				t.Fatal(i, k, text(c))
			}
		}
	}
}

func TestSame(t *testing.T) {
	for i, m := range allMaps() {
		for k, n := range allMaps() {
			for f := range 8 {
				if mat.Same(shapedMap(m.given(), f+k), shapedMap(n.given(), f*i)) != m.equal(n) {
					t.Error(i, k, f)
				}
			}
		}
	}
}

// Maps that differ in one entry alone, by much or by little.
func TestSameButOneEntry(t *testing.T) {
	for i, m := range allMaps() {
		for k := range 6 {
			for _, s := range []string{"1", "-2", "1/3", "1e-90", "-1e-90", "18446744073709551616", "-18446744073709551616", "1e60"} {
				n := m.given()
				*place(&n, k) = fraction(new(big.Rat).Add(m.numbers()[k], number(s)))
				for f := range 3 {
					a, b := shapedMap(m.given(), f*i), shapedMap(n, f*k+1)
					if mat.Same(a, b) || mat.Same(b, a) || !mat.Same(b, n) {
						t.Error(i, k, s, f)
					}
				}
			}
			n := m.given()
			if n = *negated(&n, k); mat.Same(m.given(), n) != (m.numbers()[k].Sign() == 0) {
				t.Error(i, k, "its sign")
			}
		}
	}
}

// negated is m with the sign of that entry turned, of 0 too.
func negated(m *api.Mat, k int) *api.Mat {
	a := place(m, k)
	a.P.Neg = !a.P.Neg
	return m
}

func TestSameOfAllForms(t *testing.T) {
	for i, m := range allMaps() {
		l := inOneForm(m.given())
		for k, a := range l {
			if !mat.Same(a, m.given()) || !mat.Same(m.given(), a) || !mat.Same(a, l[(5*k+i)%len(l)]) {
				t.Error(i, k)
			}
		}
	}
	if !mat.Same(api.Mat{}, mat.Of([6]int64{})) || mat.Same(api.Mat{}, mat.One()) {
		t.Error("entries that are empty count as 0")
	}
}
