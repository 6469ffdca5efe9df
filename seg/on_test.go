package seg_test

import (
	"math/big"
	"testing"

	"gesso/api"
	"gesso/seg"
)

// P7.1: On.

// isOn tells whether p is on the segment: no way about by p is longer.
func isOn(p, a, b point) bool {
	return nearest(p, a, b).Sign() == 0
}

func TestOnOfFew(t *testing.T) {
	for i, x := range []struct {
		p, a, b api.Pt
		on      bool
	}{
		{whole(1, 1), whole(0, 0), whole(2, 2), true},
		{whole(1, 1), whole(2, 2), whole(0, 0), true},
		{whole(0, 0), whole(0, 0), whole(2, 2), true},
		{whole(2, 2), whole(0, 0), whole(2, 2), true},
		{whole(3, 3), whole(0, 0), whole(2, 2), false},
		{whole(-1, -1), whole(0, 0), whole(2, 2), false},
		{whole(1, 2), whole(0, 0), whole(2, 2), false},
		{whole(1, 0), whole(0, 0), whole(2, 2), false},
		{whole(0, 2), whole(0, 0), whole(2, 2), false},
		{whole(5, 0), whole(-1, 0), whole(7, 0), true},
		{whole(8, 0), whole(-1, 0), whole(7, 0), false},
		{whole(-2, 0), whole(-1, 0), whole(7, 0), false},
		{whole(5, 1), whole(-1, 0), whole(7, 0), false},
		{whole(3, 5), whole(3, 9), whole(3, -2), true},
		{whole(3, 10), whole(3, 9), whole(3, -2), false},
		{whole(3, -3), whole(3, 9), whole(3, -2), false},
		{whole(4, 5), whole(3, 9), whole(3, -2), false},
		{whole(1, 1), whole(1, 1), whole(1, 1), true},
		{whole(2, 1), whole(1, 1), whole(1, 1), false},
		{whole(1, 0), whole(1, 1), whole(1, 1), false},
		{whole(-1, -1), whole(1, 1), whole(1, 1), false},
		{api.Pt{}, api.Pt{}, api.Pt{}, true},
		{api.Pt{}, whole(-1, 1), whole(1, -1), true},
		{whole(1, 0), api.Pt{}, api.Pt{}, false},
	} {
		if on := seg.On(x.p, x.a, x.b); on != x.on {
			t.Error(i, on)
		}
	}
}

func TestOnOfGrid(t *testing.T) {
	for i, m := range planes() {
		l := m.grid(4, 3)
		for _, p := range l {
			for _, a := range l {
				for _, b := range l {
					if on := seg.On(given(p), given(a), given(b)); on != isOn(p, a, b) {
						t.Error(i, p, a, b, on)
					}
				}
			}
		}
	}
}

func TestOnOfForms(t *testing.T) {
	for i, m := range planes() {
		l := m.grid(3, 2)
		for j, p := range l {
			for k, a := range l {
				b := l[(2*j+k+1)%len(l)]
				ps, as, bs := shapes(given(p)), shapes(given(a)), shapes(given(b))
				for n := range max(len(ps), len(as), len(bs)) {
					u, v, w := ps[n%len(ps)], as[(n+3)%len(as)], bs[(2*n+1)%len(bs)]
					if on := seg.On(u, v, w); on != isOn(p, a, b) {
						t.Error(i, u, v, w, on)
					}
					if !seg.On(u, ps[(n+7)%len(ps)], w) || !seg.On(u, w, ps[(n+7)%len(ps)]) {
						t.Error(i, "an end in two forms", u, w)
					}
				}
			}
		}
	}
}

// Shares of the way from 0 to 1 are on the segment; those beyond, and what is a
// little aside, are not.
func TestOnOfShares(t *testing.T) {
	one, little := big.NewRat(1, 1), number("1e-90")
	for i, m := range planes() {
		for _, ends := range [][2]point{{m.of(0, 0), m.of(3, 1)}, {m.of(2, 0), m.of(-1, 5)}, {m.of(7, 7), m.of(7, 0)}, {m.of(0, 1), m.of(9, 1)}} {
			a, b := ends[0], ends[1]
			way := from(a, b)
			for _, s := range []string{"0", "1", "1/2", "1/3", "1e-50", "18446744073709551615/18446744073709551616", "-1", "-1e-50", "2", "18446744073709551617/18446744073709551616", "1e50", "-1e50"} {
				k := number(s)
				p := mixed(a, b, k)
				on := k.Sign() >= 0 && k.Cmp(one) <= 0
				if seg.On(given(p), given(a), given(b)) != on {
					t.Error(i, a, b, s)
				}
				for _, n := range []*big.Rat{little, less(new(big.Rat), little)} {
					aside := point{less(p.x, times(n, way.y)), sum(p.y, times(n, way.x))}
					if seg.On(given(aside), given(a), given(b)) {
						t.Error(i, a, b, s, "aside")
					}
				}
			}
		}
	}
}
