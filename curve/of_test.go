package curve_test

import (
	"math"
	"math/big"
	"slices"
	"testing"

	"gesso/api"
	"gesso/curve"
	"gesso/mat"
	"gesso/rat"
)

// P13.1: Of.

func TestOfFew(t *testing.T) {
	for i, x := range []struct {
		from, m string
		s       api.Seg
		want    string
	}{
		{"0 0", "1 0 0 1 0 0", api.Seg{Kind: api.Line, V: [6]int64{64, 128}}, "0 0 1; 1 2 1; "},
		{"0 0", "1 0 0 1 0 0", api.Seg{Kind: api.Line}, "0 0 1; 0 0 1; "},
		{"1/3 -5/7", "1 0 0 1 0 0", api.Seg{Kind: api.Line, V: [6]int64{63, 65}}, "1/3 -5/7 1; 63/64 65/64 1; "},
		{"64 64", "1 0 0 1 0 0", api.Seg{Kind: api.Line, V: [6]int64{-63, -65}}, "64 64 1; -63/64 -65/64 1; "},
		{"0 0", "1 0 0 1 0 0", api.Seg{Kind: api.Quad, V: [6]int64{64, 128, 128, 0}}, "0 0 1; 1 2 1; 2 0 1; "},
		{"1 2", "1 0 0 1 3 -2", api.Seg{Kind: api.Quad, V: [6]int64{64, 128, 128, 0}}, "4 0 1; 4 0 1; 5 -2 1; "},
		{"1 2", "0 1 -1 0 0 0", api.Seg{Kind: api.Quad, V: [6]int64{64, 128, 128, 0}}, "-2 1 1; -2 1 1; 0 2 1; "},
		{"1 2", "2 0 0 1 1 0", api.Seg{Kind: api.Cubic, V: [6]int64{0, 0, 64, 0, 64, 64}}, "3 2 1; 1 0 1; 3 0 1; 3 1 1; "},
		{"1 2", "0 0 0 0 7 -1/2", api.Seg{Kind: api.Cubic, V: [6]int64{0, 0, 64, 0, 64, 64}}, "7 -1/2 1; 7 -1/2 1; 7 -1/2 1; 7 -1/2 1; "},
		{"1 2", "1 2 2 4 0 0", api.Seg{Kind: api.Line, V: [6]int64{-64, 64}}, "5 10 1; 1 2 1; "},
		{"1 0", "1 0 0 1 0 0", api.Seg{Kind: api.Conic, V: [6]int64{64, 64, 0, 64}, W: 64}, "1 0 1; 1 1 1; 0 1 1; "},
		{"1 0", "1 0 0 1 0 0", api.Seg{Kind: api.Conic, V: [6]int64{64, 64, 0, 64}, W: 32}, "1 0 1; 1/2 1/2 1/2; 0 1 1; "},
		{"1 0", "1 0 0 1 0 0", api.Seg{Kind: api.Conic, V: [6]int64{64, 64, 0, 64}, W: 1}, "1 0 1; 1/64 1/64 1/64; 0 1 1; "},
		{"1 0", "1 0 0 1 2 3", api.Seg{Kind: api.Conic, V: [6]int64{64, -64, 0, 64}, W: 128}, "3 3 1; 6 4 2; 2 4 1; "},
		{"0 0", "1 0 0 1 0 0", api.Seg{Kind: api.Conic, V: [6]int64{0, -1, 1, 0}, W: 4096}, "0 0 1; 0 -1 64; 1/64 0 1; "},
		{"0 0", "1 0 0 1 0 0", api.Seg{Kind: api.Line, V: [6]int64{api.MaxCoord - 1, 1 - api.MaxCoord}}, "0 0 1; 2147483647/64 -2147483647/64 1; "},
		{"0 0", "1 0 0 1 0 0", api.Seg{Kind: api.Line, V: [6]int64{math.MaxInt64, math.MinInt64}}, "0 0 1; 9223372036854775807/64 -144115188075855872 1; "},
		{"0 0", "1 0 0 1 0 0", api.Seg{Kind: api.Conic, V: [6]int64{1, 2, 3, 4}, W: math.MaxInt64}, "0 0 1; 9223372036854775807/4096 9223372036854775807/2048 9223372036854775807/64; 3/64 1/16 1; "},
	} {
		from := numbers(x.from)
		l, e := curve.Of(point(from[0], from[1]), x.s, givenMap(numbers(x.m)))
		if text(l) != x.want || e != api.OK {
			t.Error(i, text(l), e)
		}
	}
}

// Numbers that are not there count as nought.
func TestOfNothing(t *testing.T) {
	l, e := curve.Of(api.Pt{}, api.Seg{Kind: api.Line, V: [6]int64{1, 2}}, api.Mat{})
	if !isList(l, controls("0 0 1; 0 0 1")) || e != api.OK {
		t.Error(text(l), e)
	}
	l, e = curve.Of(api.Pt{}, api.Seg{Kind: api.Cubic}, mat.One())
	if !isList(l, controls("0 0 1; 0 0 1; 0 0 1; 0 0 1")) || e != api.OK {
		t.Error(text(l), e)
	}
	l, e = curve.Of(api.Pt{X: api.Rat{P: api.Int{N: []uint64{6, 0}}, Q: []uint64{4, 0}}}, api.Seg{Kind: api.Line}, api.Mat{A: rat.Of(1, 1), F: api.Rat{P: api.Int{N: []uint64{3}}}})
	if !isList(l, controls("3/2 3 1; 0 3 1")) || e != api.OK {
		t.Error(text(l), e)
	}
}

func checkOf(t *testing.T, from []*big.Rat, s api.Seg, m []*big.Rat, n int) {
	t.Helper()
	l, e := curve.Of(shaped(point(from[0], from[1]), n), s, shapedMap(givenMap(m), n))
	if e != api.OK || !isList(l, drawn(from, s, m)) {
		t.Error(from, s, m, n, text(l), e)
	}
	if !curve.Good(l) {
		t.Error(from, s, m, n, "not good")
	}
}

// Each number of V is each coord by turns.
func TestOfCoords(t *testing.T) {
	all := maps()
	for _, kind := range curveKinds {
		for k := range 6 {
			for i, v := range coords {
				s := api.Seg{Kind: kind, V: [6]int64{11, -22, 33, -44, 55, -66}, W: 96}
				s.V[k] = v
				for j, from := range places() {
					checkOf(t, from, s, all[(i+j+k)%len(all)], i+j)
				}
				checkOf(t, numbers("1/2 3"), s, all[0], 0)
			}
		}
	}
}

func TestOfMaps(t *testing.T) {
	d := dice(13)
	for i, m := range maps() {
		for j, from := range places() {
			for _, kind := range curveKinds {
				s := api.Seg{Kind: kind, W: of(&d, weights)}
				for k := range s.V {
					s.V[k] = of(&d, coords)
				}
				checkOf(t, from, s, m, 0)
				checkOf(t, from, s, m, i+3*j)
			}
		}
	}
}

func TestOfWeights(t *testing.T) {
	v := [6]int64{64, -96, 130, 7, 1, 2}
	for i, w := range weights {
		for _, m := range maps() {
			checkOf(t, numbers("5/3 -2"), api.Seg{Kind: api.Conic, V: v, W: w}, m, i)
		}
	}
}

// Any Kind but Conic has no weight, and no Kind has more points than its own:
// what stands there is nothing.
func TestOfWhatKindHasNot(t *testing.T) {
	for _, kind := range curveKinds {
		points := map[int]int{api.Line: 1, api.Quad: 2, api.Cubic: 3, api.Conic: 2}[kind]
		plain := api.Seg{Kind: kind, W: 64}
		for k := range 2 * points {
			plain.V[k] = int64(100*k + 7)
		}
		want, e := curve.Of(api.Pt{X: rat.Of(1, 3)}, plain, mat.One())
		if len(want) != points+1 || e != api.OK {
			t.Error(kind, text(want), e)
		}
		for _, w := range slices.Concat(weights, noWeights) {
			s := plain
			if kind != api.Conic {
				s.W = w
			}
			for k := 2 * points; k < 6; k++ {
				s.V[k] = w
			}
			l, e := curve.Of(api.Pt{X: rat.Of(1, 3)}, s, mat.One())
			if text(l) != text(want) || e != api.OK {
				t.Error(kind, w, text(l), e)
			}
		}
	}
}

func checkNoCurve(t *testing.T, s api.Seg) {
	t.Helper()
	for _, m := range []api.Mat{mat.One(), {}} {
		if l, e := curve.Of(api.Pt{X: rat.Of(1, 2)}, s, m); len(l) != 0 || e != api.ErrForm {
			t.Error(s, text(l), e)
		}
	}
}

func TestOfNoCurve(t *testing.T) {
	v := [6]int64{1, 2, 3, 4, 5, 6}
	for _, kind := range otherKinds {
		for _, w := range slices.Concat(weights, noWeights) {
			checkNoCurve(t, api.Seg{Kind: kind, V: v, W: w})
			checkNoCurve(t, api.Seg{Kind: kind, W: w})
		}
	}
	for _, w := range noWeights {
		checkNoCurve(t, api.Seg{Kind: api.Conic, V: v, W: w})
		checkNoCurve(t, api.Seg{Kind: api.Conic, W: w})
	}
}
