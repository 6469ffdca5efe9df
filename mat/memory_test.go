package mat_test

import (
	"slices"
	"testing"

	"gesso/api"
	"gesso/mat"
)

// The rules that hold everywhere: what is handed in stays as it is, what is
// told is new memory, and nothing is kept from call to call.

// roomy is a with spare room behind both lists, in which nothing may be
// written.
func roomy(a api.Rat) api.Rat {
	for _, l := range []*[]uint64{&a.P.N, &a.Q} {
		*l = append(slices.Clone(*l), 41, 42, 43)
		*l = (*l)[:len(*l)-3]
	}
	return a
}

func roomyPoint(p api.Pt) api.Pt { return api.Pt{X: roomy(p.X), Y: roomy(p.Y)} }

func roomyMap(m api.Mat) api.Mat {
	for k := range 6 {
		*place(&m, k) = roomy(*place(&m, k))
	}
	return m
}

// lists are the lists of which l are made.
func lists(l ...api.Rat) [][]uint64 {
	var all [][]uint64
	for _, a := range l {
		all = append(all, a.P.N, a.Q)
	}
	return all
}

// room is all that stands in the lists of both maps and of p, spare room and
// all.
func room(m, n api.Mat, p api.Pt) []uint64 {
	var all []uint64
	for _, l := range lists(slices.Concat(entriesOf(m), entriesOf(n), []api.Rat{p.X, p.Y})...) {
		all = append(append(all, uint64(len(l))), l[:cap(l)]...)
	}
	return all
}

// told are all lists that calls tell of two maps and a point.
func told(m, n api.Mat, p api.Pt) [][]uint64 {
	var all []api.Rat
	for range 2 {
		q := mat.Apply(m, p)
		all = append(all, q.X, q.Y, mat.Det(m))
		undo, _ := mat.Inv(m)
		for _, a := range []api.Mat{mat.One(), mat.Of([6]int64{1, 2, 3, 4, 5, 6}), mat.Of([6]int64{}), mat.Mul(m, n), mat.Mul(n, m), mat.Mul(m, m), undo} {
			all = append(all, entriesOf(a)...)
		}
		list := mat.Entries(m)
		all = append(all, list...)
		for i := range list[:cap(list)] {
			list[:cap(list)][i] = api.Rat{P: api.Int{N: []uint64{9}}}
		}
	}
	return lists(all...)
}

func checkMemory(t *testing.T, m, n api.Mat, p api.Pt) {
	t.Helper()
	ahead := room(m, n, p)
	mat.Same(m, n)
	got := told(m, n, p)
	var kept [][]uint64
	for _, g := range got {
		kept = append(kept, slices.Clone(g))
	}
	for i, g := range got {
		if !slices.Equal(g, kept[i]) {
			t.Error(text(m), text(n), i, "shares memory with a list ahead")
		}
		for k := range g[:cap(g)] {
			g[:cap(g)][k] = 0xbad
		}
	}
	if !slices.Equal(room(m, n, p), ahead) {
		t.Error(text(m), text(n), "an argument is changed, or shared")
	}
	if !slices.EqualFunc(told(m, n, p), kept, slices.Equal[[]uint64]) {
		t.Error(text(m), text(n), "hangs on an answer that was told")
	}
}

func TestArgumentsAndAnswersShareNothing(t *testing.T) {
	l := points()
	for i, m := range allMaps() {
		for k, n := range allMaps() {
			v := l[(i+3*k)%len(l)]
			p := point(v[0], v[1])
			checkMemory(t, roomyMap(m.given()), roomyMap(n.given()), roomyPoint(p))
			checkMemory(t, roomyMap(shapedMap(m.given(), i+k)), roomyMap(shapedMap(n.given(), 2*i+k)), roomyPoint(shaped(p, k)))
		}
	}
}

// One list may stand in all entries, and in the point, and one map in both
// places.
func TestOneArgumentManyTimes(t *testing.T) {
	for _, s := range []string{"0", "1", "-1", "-22/7", "340282366920938463463374607431768211457/18446744073709551615", "1e60"} {
		for _, a := range forms(fraction(number(s))) {
			a = roomy(a)
			m := api.Mat{A: a, B: a, C: a, D: a, E: a, F: a}
			checkMemory(t, m, m, api.Pt{X: a, Y: a})
			m.A, m.D = roomy(fraction(number("2"))), roomy(fraction(number("-3/5")))
			checkMemory(t, m, m, api.Pt{X: a, Y: m.A})
		}
	}
}
