package seg_test

import (
	"slices"
	"testing"

	"gesso/api"
	"gesso/seg"
)

// The rules that hold everywhere: what is handed in stays as it is, what is
// told is new memory, and nothing is kept from call to call.

// roomy is a with spare room behind both lists, in which nothing may be
// written.
func roomy(a api.Rat) api.Rat {
	for _, l := range []*[]uint64{&a.P.N, &a.Q} {
		*l = append(slices.Clone(*l), 41, 42, 43)
		*l = (*l)[:len(*l)-3]
	}
	return a
}

func roomyPoint(p api.Pt) api.Pt { return api.Pt{X: roomy(p.X), Y: roomy(p.Y)} }

// room is all that stands in the lists of l, spare room and all.
func room(l ...api.Pt) []uint64 {
	var all []uint64
	for _, p := range l {
		for _, a := range []api.Rat{p.X, p.Y} {
			all = slices.Concat(all, a.P.N[:cap(a.P.N)], a.Q[:cap(a.Q)])
		}
	}
	return all
}

// told are all lists that calls tell of four points.
func told(a, b, c, d api.Pt) [][]uint64 {
	var l [][]uint64
	for _, m := range [][]api.Pt{seg.Meet(a, b, c, d), seg.Meet(a, b, c, d), seg.Meet(c, d, a, b), seg.Meet(a, a, c, d), seg.Meet(a, b, a, b), seg.Meet(a, b, b, a), seg.Meet(a, a, a, a)} {
		for _, p := range m[:cap(m)] {
			l = append(l, p.X.P.N, p.X.Q, p.Y.P.N, p.Y.Q)
		}
		for i := range m[:cap(m)] {
			m[:cap(m)][i] = api.Pt{}
		}
	}
	for _, y := range []api.Rat{a.Y, b.Y, c.Y, a.X} {
		v, _ := seg.Level(a, b, y)
		w, _ := seg.Upright(a, b, y)
		l = append(l, v.P.N, v.Q, w.P.N, w.Q)
	}
	return l
}

func checkMemory(t *testing.T, a, b, c, d api.Pt) {
	t.Helper()
	seg.On(c, a, b)
	seg.On(a, a, b)
	ahead := room(a, b, c, d)
	got := told(a, b, c, d)
	var kept [][]uint64
	for _, l := range got {
		kept = append(kept, slices.Clone(l))
	}
	for i, l := range got {
		if !slices.Equal(l, kept[i]) {
			t.Error(a, b, c, d, i, "shares memory with a list ahead")
		}
		for n := range l[:cap(l)] {
			l[:cap(l)][n] = 0xbad
		}
	}
	if !slices.Equal(room(a, b, c, d), ahead) {
		t.Error(a, b, c, d, "an argument is changed, or shared")
	}
	if !slices.EqualFunc(told(a, b, c, d), kept, slices.Equal[[]uint64]) {
		t.Error(a, b, c, d, "hangs on an answer that was told")
	}
}

func TestArgumentsAndAnswersShareNothing(t *testing.T) {
	for i, m := range planes() {
		for j, x := range fours(m)[:len(pairs())+200] {
			var good, other [4]api.Pt
			for k, p := range x {
				l := shapes(p)
				good[k], other[k] = roomyPoint(p), roomyPoint(l[(3*i+5*j+7*k)%len(l)])
			}
			checkMemory(t, good[0], good[1], good[2], good[3])
			checkMemory(t, other[0], other[1], other[2], other[3])
		}
	}
}

// One list may stand in both parts, and one point in several places.
func TestOneArgumentTwice(t *testing.T) {
	for _, m := range planes() {
		for _, v := range m.grid(2, 2) {
			for _, a := range forms(fraction(v.x)) {
				b := roomy(a)
				p, q := api.Pt{X: b, Y: b}, roomyPoint(given(v))
				checkMemory(t, p, p, p, p)
				checkMemory(t, p, q, q, p)
				checkMemory(t, p, q, p, p)
			}
		}
	}
}
