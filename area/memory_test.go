package area_test

import (
	"slices"
	"testing"

	"gesso/api"
	"gesso/area"
)

// The rules that hold everywhere: what is handed in stays as it is, what is
// told is new memory, and nothing is kept from call to call.

// roomy is a with spare room behind both lists, in which nothing may be
// written.
func roomy(a api.Rat) api.Rat {
	for _, l := range []*[]uint64{&a.P.N, &a.Q} {
		*l = append(slices.Clone(*l), 41, 42, 43)
		*l = (*l)[:len(*l)-3]
	}
	return a
}

func roomyPoint(p api.Pt) api.Pt { return api.Pt{X: roomy(p.X), Y: roomy(p.Y)} }

// roomyPoints are l, with spare room of points behind them.
func roomyPoints(l []api.Pt) []api.Pt {
	var all []api.Pt
	for _, p := range l {
		all = append(all, roomyPoint(p))
	}
	all = append(all, roomyPoint(whole(41, 42)), roomyPoint(whole(43, 44)), roomyPoint(whole(45, 46)))
	return all[:len(l)]
}

// lists are the lists of which l are made.
func lists(l []api.Pt) [][]uint64 {
	var all [][]uint64
	for _, p := range l {
		all = append(all, p.X.P.N, p.X.Q, p.Y.P.N, p.Y.Q)
	}
	return all
}

// room is all that stands in l and in its lists, spare room and all.
func room(l []api.Pt) []uint64 {
	var all []uint64
	for _, p := range l[:cap(l)] {
		for _, a := range []api.Rat{p.X, p.Y} {
			all = append(all, uint64(len(a.P.N)), uint64(len(a.Q)))
			all = slices.Concat(all, a.P.N[:cap(a.P.N)], a.Q[:cap(a.Q)])
		}
	}
	return all
}

// told are all lists that calls tell of a polygon and two points.
func told(l []api.Pt, a, b api.Pt) [][]uint64 {
	var all [][]uint64
	for _, h := range [][]api.Pt{area.Half(l, a, b), area.Half(l, b, a), area.Half(l, a, a), area.Half(l, a, b), area.Half(l, a, a)} {
		all = append(all, lists(h)...)
		for i := range h[:cap(h)] {
			h[:cap(h)][i] = whole(9, 9)
		}
	}
	for range 2 {
		least, most, _ := area.Box(l)
		size := area.Area(l)
		all = append(append(all, lists([]api.Pt{least, most})...), size.P.N, size.Q)
	}
	return all
}

func checkMemory(t *testing.T, l []api.Pt, a, b api.Pt) {
	t.Helper()
	line := []api.Pt{a, b}
	ahead := append(room(l), room(line)...)
	area.Convex(l)
	area.Has(l, a)
	got := told(l, a, b)
	var kept [][]uint64
	for _, g := range got {
		kept = append(kept, slices.Clone(g))
	}
	for i, g := range got {
		if !slices.Equal(g, kept[i]) {
			t.Error(l, a, b, i, "shares memory with a list ahead")
		}
		for n := range g[:cap(g)] {
			g[:cap(g)][n] = 0xbad
		}
	}
	if !slices.Equal(append(room(l), room(line)...), ahead) {
		t.Error(l, a, b, "an argument is changed, or shared")
	}
	if !slices.EqualFunc(told(l, a, b), kept, slices.Equal[[]uint64]) {
		t.Error(l, a, b, "hangs on an answer that was told")
	}
}

func TestArgumentsAndAnswersShareNothing(t *testing.T) {
	for i, m := range planes() {
		ends := givens(m.grid(3, 2))
		for j, x := range figures() {
			l := givens(m.all(x.xy))
			for k, a := range ends {
				b, n := ends[(2*k+j)%len(ends)], 7*i+5*j+3*k
				checkMemory(t, roomyPoints(l), roomyPoint(a), roomyPoint(b))
				checkMemory(t, roomyPoints(allShaped(l, n)), roomyPoint(shaped(a, n+1)), roomyPoint(shaped(b, n+2)))
			}
		}
	}
}

// One list may stand in all parts, and one point in all places, those of the
// line too.
func TestOneArgumentManyTimes(t *testing.T) {
	for _, m := range planes() {
		for _, v := range m.grid(2, 2) {
			for n := range 12 {
				p := roomyPoint(shaped(given(v), n))
				q := api.Pt{X: p.X, Y: p.X}
				l := roomyPoints(nil)
				for range 4 {
					l = append(l, p, q)
				}
				checkMemory(t, l, p, q)
				checkMemory(t, l, q, p)
				checkMemory(t, l[:1], p, p)
				checkMemory(t, l[2:7], q, p)
			}
		}
	}
}
