package seg_test

import (
	"math/big"
	"testing"

	"gesso/api"
	"gesso/rat"
	"gesso/seg"
)

// P7.2.

// turned is p with its parts in each other's place.
func turned(p api.Pt) api.Pt { return api.Pt{X: p.Y, Y: p.X} }

// level is the X at which the segment has the Y y, nil, if it has not, or if it
// is level: that of the point where a level segment as wide meets it.
func level(a, b point, y *big.Rat) *big.Rat {
	if a.y.Cmp(b.y) == 0 {
		return nil
	}
	l := met(a, b, point{lesser(a.x, b.x), y}, point{greater(a.x, b.x), y})
	if len(l) == 0 {
		return nil
	}
	return l[0].x
}

// isNumber tells whether a and ok tell want, which is nil for none.
func isNumber(a api.Rat, ok bool, want *big.Rat) bool {
	if want == nil {
		return !ok && !a.P.Neg && len(a.P.N) == 0 && len(a.Q) == 0
	}
	return ok && is(a, want)
}

func checkLevel(t *testing.T, a, b api.Pt, y api.Rat, want *big.Rat) {
	t.Helper()
	if v, ok := seg.Level(a, b, y); !isNumber(v, ok, want) {
		t.Error("level", a, b, y, v, ok)
	}
	if v, ok := seg.Upright(turned(a), turned(b), y); !isNumber(v, ok, want) {
		t.Error("upright", a, b, y, v, ok)
	}
}

func TestLevelOfFew(t *testing.T) {
	for i, x := range []struct {
		a, b api.Pt
		at   api.Rat
		s    string
		ok   bool
	}{
		{whole(0, 0), whole(4, 2), rat.Of(1, 1), "2", true},
		{whole(4, 2), whole(0, 0), rat.Of(1, 2), "1", true},
		{whole(0, 0), whole(4, 2), rat.Of(0, 1), "0", true},
		{whole(0, 0), whole(4, 2), rat.Of(2, 1), "4", true},
		{whole(0, 0), whole(4, 2), rat.Of(3, 1), "0", false},
		{whole(0, 0), whole(4, 2), rat.Of(-1, 1), "0", false},
		{whole(1, 0), whole(5, 2), rat.Of(9223372036854775807, 4611686018427387904), "11529215046068469759/2305843009213693952", true},
		{whole(1, 0), whole(5, 2), rat.Of(9223372036854775807, 4611686018427387903), "0", false},
		{whole(1, 0), whole(5, 2), rat.Of(-1, 9223372036854775807), "0", false},
		{whole(1, 0), whole(5, 2), rat.Of(1, 9223372036854775807), "9223372036854775809/9223372036854775807", true},
		{whole(0, 1), whole(4, 1), rat.Of(1, 1), "0", false},
		{whole(0, 1), whole(4, 1), rat.Of(2, 1), "0", false},
		{whole(0, 1), whole(4, 1), rat.Of(0, 1), "0", false},
		{whole(0, 0), whole(4, 0), api.Rat{}, "0", false},
		{whole(3, 1), whole(3, 1), rat.Of(1, 1), "0", false},
		{whole(3, 1), whole(3, 1), rat.Of(0, 1), "0", false},
		{whole(3, 0), whole(3, 9), rat.Of(5, 1), "3", true},
		{whole(3, 9), whole(3, 0), rat.Of(9, 1), "3", true},
		{whole(3, 9), whole(3, 0), rat.Of(10, 1), "0", false},
		{whole(-3, -1), whole(2, 6), rat.Of(1, 3), "-43/21", true},
		{whole(2, 6), whole(-3, -1), rat.Of(1, 3), "-43/21", true},
		{whole(-3, -1), whole(2, 6), rat.Of(-1, 1), "-3", true},
		{whole(-3, -1), whole(2, 6), rat.Of(6, 1), "2", true},
		{whole(-3, -1), whole(2, 6), api.Rat{}, "-16/7", true},
		{api.Pt{}, api.Pt{}, api.Rat{}, "0", false},
		{api.Pt{}, whole(1, 2), api.Rat{}, "0", true},
	} {
		if v, ok := seg.Level(x.a, x.b, x.at); ok != x.ok || rat.Text(v) != x.s {
			t.Error(i, "level", rat.Text(v), ok)
		}
		if v, ok := seg.Upright(turned(x.a), turned(x.b), x.at); ok != x.ok || rat.Text(v) != x.s {
			t.Error(i, "upright", rat.Text(v), ok)
		}
	}
}

// All segments of a grid: at each of its points' Y, between two of them, and
// next beside an end on either side.
func TestLevelOfGrid(t *testing.T) {
	little := number("1e-90")
	for _, m := range planes() {
		l := m.grid(4, 3)
		for _, a := range l {
			for _, b := range l {
				for _, p := range l {
					checkLevel(t, given(a), given(b), fraction(p.y), level(a, b, p.y))
				}
				for _, y := range []*big.Rat{mixed(a, b, number("1/2")).y, mixed(a, b, number("2/7")).y, sum(a.y, little), less(a.y, little), sum(b.y, little), less(b.y, little)} {
					checkLevel(t, given(a), given(b), fraction(y), level(a, b, y))
				}
			}
		}
	}
}

func TestLevelOfForms(t *testing.T) {
	for _, m := range planes() {
		l := m.grid(3, 2)
		for i, a := range l {
			for j, b := range l {
				ys := []*big.Rat{l[(i+2*j)%len(l)].y, mixed(a, b, number("1/3")).y}
				as, bs := shapes(given(a)), shapes(given(b))
				for n := range max(len(as), len(bs)) {
					y := ys[n%2]
					f := forms(fraction(y))
					checkLevel(t, as[n%len(as)], bs[(3*n+1)%len(bs)], f[n%len(f)], level(a, b, y))
				}
			}
		}
	}
}
