package seg_test

import (
	"slices"
	"testing"

	"gesso/api"
	"gesso/pt"
	"gesso/seg"
)

// P7.3, and what else follows from P7.1 and P7.2.

// fours are sets of four points, of grids behind maps.
func fours(m plane) [][4]api.Pt {
	var l [][4]api.Pt
	for _, x := range pairs() {
		v := x.xy
		l = append(l, [4]api.Pt{given(m.of(v[0], v[1])), given(m.of(v[2], v[3])), given(m.of(v[4], v[5])), given(m.of(v[6], v[7]))})
	}
	g := m.grid(4, 2)
	for i := range 1000 {
		l = append(l, [4]api.Pt{given(g[i%8]), given(g[i/8%8]), given(g[i*5/3%8]), given(g[(i/64+i*i)%8])})
	}
	return l
}

func samePoints(l, m []api.Pt) bool { return slices.EqualFunc(l, m, pt.Same) }

func TestMeetIsOnBoth(t *testing.T) {
	for i, m := range planes() {
		for _, x := range fours(m) {
			a, b, c, d := x[0], x[1], x[2], x[3]
			l := seg.Meet(a, b, c, d)
			for _, p := range l {
				if !pt.Good(p) || !seg.On(p, a, b) || !seg.On(p, c, d) {
					t.Error(i, a, b, c, d, p)
				}
			}
			if len(l) == 2 && !seg.On(l[0], a, l[1]) {
				t.Error(i, a, b, c, d, "the one nearer to a first")
			}
			if len(l) == 2 && !seg.On(pt.Mix(l[0], l[1], fraction(number("1/3"))), c, d) {
				t.Error(i, a, b, c, d, "what is between both")
			}
		}
	}
}

func TestMeetTurnedRound(t *testing.T) {
	for i, m := range planes() {
		for _, x := range fours(m) {
			a, b, c, d := x[0], x[1], x[2], x[3]
			l := seg.Meet(a, b, c, d)
			if !samePoints(seg.Meet(a, b, d, c), l) {
				t.Error(i, a, b, c, d, "the second one turned round")
			}
			back := slices.Clone(l)
			slices.Reverse(back)
			if !samePoints(seg.Meet(b, a, c, d), back) {
				t.Error(i, a, b, c, d, "the first one turned round")
			}
			other := seg.Meet(c, d, a, b)
			if !samePoints(other, l) && !samePoints(other, back) {
				t.Error(i, a, b, c, d, "each in the other's place")
			}
		}
	}
}

// An end of one is met just if it is on the other, too.
func TestMeetAndOn(t *testing.T) {
	for i, m := range planes() {
		for _, x := range fours(m) {
			a, b, c, d := x[0], x[1], x[2], x[3]
			l := seg.Meet(a, b, c, d)
			for _, y := range [][3]api.Pt{{a, c, d}, {b, c, d}, {c, a, b}, {d, a, b}} {
				p := y[0]
				alone := seg.Meet(p, p, y[1], y[2])
				if on := seg.On(p, y[1], y[2]); on != slices.ContainsFunc(l, func(q api.Pt) bool { return pt.Same(p, q) }) || on != samePoints(alone, []api.Pt{p}) {
					t.Error(i, a, b, c, d, p)
				}
			}
		}
	}
}

// What Level and Upright tell is on the segment, and the one brings back what
// the other was asked for.
func TestLevelIsOn(t *testing.T) {
	for i, m := range planes() {
		for _, x := range fours(m) {
			a, b, p := x[0], x[1], x[2]
			v, ok := seg.Level(a, b, p.Y)
			if ok && !seg.On(api.Pt{X: v, Y: p.Y}, a, b) {
				t.Error(i, a, b, p, "not on it")
			}
			if w, back := seg.Level(b, a, p.Y); back != ok || !samePoints([]api.Pt{{X: v}}, []api.Pt{{X: w}}) {
				t.Error(i, a, b, p, "turned round")
			}
			w, back := seg.Upright(a, b, v)
			if ok && back && !pt.Same(api.Pt{Y: w}, api.Pt{Y: p.Y}) {
				t.Error(i, a, b, p, "back")
			}
			if ok && !back && !pt.Same(api.Pt{X: a.X}, api.Pt{X: b.X}) {
				t.Error(i, a, b, p, "no way back")
			}
		}
	}
}
