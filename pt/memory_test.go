package pt_test

import (
	"slices"
	"testing"

	"gesso/api"
	"gesso/pt"
)

// The rules that hold everywhere: what is handed in stays as it is, what is
// told is new memory, and nothing is kept from call to call.

// roomy is a with spare room behind both lists, in which nothing may be
// written.
func roomy(a api.Rat) api.Rat {
	for _, l := range []*[]uint64{&a.P.N, &a.Q} {
		*l = append(slices.Clone(*l), 41, 42, 43)
		*l = (*l)[:len(*l)-3]
	}
	return a
}

func roomyPoint(p api.Pt) api.Pt { return api.Pt{X: roomy(p.X), Y: roomy(p.Y)} }

// room is all that stands in the lists of a and of l, spare room and all.
func room(a api.Rat, l ...api.Pt) []uint64 {
	all := slices.Concat(a.P.N[:cap(a.P.N)], a.Q[:cap(a.Q)])
	for _, p := range l {
		all = append(append(all, room(p.X)...), room(p.Y)...)
	}
	return all
}

// told are all lists that calls tell of three points and a share.
func told(p, q, r api.Pt, t api.Rat) [][]uint64 {
	var l [][]uint64
	for _, s := range []api.Pt{pt.Add(p, q), pt.Sub(p, q), pt.Scale(p, t), pt.Mix(p, q, t), pt.Add(p, p), pt.Sub(p, p), pt.Mix(p, p, t), pt.Add(p, q)} {
		l = append(l, s.X.P.N, s.X.Q, s.Y.P.N, s.Y.Q)
	}
	for _, a := range []api.Rat{pt.Dot(p, q), pt.Cross(p, q), pt.Far(p, q), pt.ToSeg(p, q, r), pt.ToSeg(r, p, q), pt.ToSeg(q, p, r), pt.ToSeg(p, p, p), pt.ToSeg(p, q, q), pt.Dot(p, p), pt.Cross(p, p), pt.Dot(p, q)} {
		l = append(l, a.P.N, a.Q)
	}
	return append(l, []uint64{uint64(pt.Orient(p, q, r) + 1)})
}

func checkMemory(t *testing.T, p, q, r api.Pt, k api.Rat) {
	t.Helper()
	pt.Good(p)
	pt.Same(p, q)
	ahead := room(k, p, q, r)
	got := told(p, q, r, k)
	var kept [][]uint64
	for _, l := range got {
		kept = append(kept, slices.Clone(l))
	}
	for i, l := range got {
		if !slices.Equal(l, kept[i]) {
			t.Error(p, q, r, k, i, "shares memory with a list ahead")
		}
		for n := range l[:cap(l)] {
			l[:cap(l)][n] = 0xbad
		}
	}
	if !slices.Equal(room(k, p, q, r), ahead) {
		t.Error(p, q, r, k, "an argument is changed, or shared")
	}
	if !slices.EqualFunc(told(p, q, r, k), kept, slices.Equal[[]uint64]) {
		t.Error(p, q, r, k, "hangs on an answer that was told")
	}
}

func TestArgumentsAndAnswersShareNothing(t *testing.T) {
	l, m := points(), shares()
	for i, u := range l {
		for j, v := range l {
			w, k := l[(i+2*j+1)%len(l)], forms(fraction(m[(i+j)%len(m)]))
			ps, qs, rs := shapes(given(u)), shapes(given(v)), shapes(given(w))
			checkMemory(t, roomyPoint(ps[0]), roomyPoint(qs[0]), roomyPoint(rs[0]), roomy(k[0]))
			n := 3*i + j
			checkMemory(t, roomyPoint(ps[n%len(ps)]), roomyPoint(qs[n%len(qs)]), roomyPoint(rs[n%len(rs)]), roomy(k[n%len(k)]))
		}
	}
}

// One list may stand in both parts, and one point in both places.
func TestOneArgumentTwice(t *testing.T) {
	for _, v := range points() {
		for _, a := range forms(fraction(v.x)) {
			b := roomy(a)
			p := api.Pt{X: b, Y: b}
			checkMemory(t, p, p, p, b)
		}
	}
}
