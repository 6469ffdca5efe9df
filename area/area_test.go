package area_test

import (
	"math/big"
	"testing"

	"gesso/api"
	"gesso/area"
	"gesso/rat"
)

// P8.1: Area.

func TestAreaOfFew(t *testing.T) {
	for _, x := range figures() {
		if a := area.Area(wholes(x.xy...)); !rat.Good(a) || rat.Text(a) != x.area {
			t.Error(x.what, rat.Text(a))
		}
	}
}

// The same behind each map, in lowest terms and in forms that are not good.
func TestAreaOfFewMapped(t *testing.T) {
	for i, m := range planes() {
		for _, x := range figures() {
			l := m.all(x.xy)
			want := size(l)
			if a := area.Area(givens(l)); !is(a, want) {
				t.Error(i, x.what, a)
			}
			for n := range 12 {
				if a := area.Area(allShaped(givens(l), n)); !is(a, want) {
					t.Error(i, x.what, n, a)
				}
			}
		}
	}
}

// From which of its points it begins is all one; turned round it is the other
// sign.
func TestAreaTurned(t *testing.T) {
	for i, m := range planes() {
		for _, x := range figures() {
			l := givens(m.all(x.xy))
			a := area.Area(l)
			for n := range l {
				if b := area.Area(from(l, n)); rat.Cmp(a, b) != 0 {
					t.Error(i, x.what, n, b)
				}
			}
			if b := area.Area(back(l)); rat.Cmp(rat.Neg(a), b) != 0 {
				t.Error(i, x.what, "turned round", b)
			}
		}
	}
}

// Each lower number is another one.
func TestAreaOfManyFractions(t *testing.T) {
	var l []point
	for i := range int64(300) {
		l = append(l, point{big.NewRat(7*i%11, 2*i+1), big.NewRat(i*i%13-6, 3*i+2)})
	}
	for n := range 10 {
		if a := area.Area(givens(l[:n])); !is(a, size(l[:n])) {
			t.Error(n, a)
		}
	}
	if a := area.Area(givens(l)); !is(a, size(l)) {
		t.Error(a)
	}
}

// Cut in two from its first point to another one, it has the area of both.
func TestAreaInTwoParts(t *testing.T) {
	var l []api.Pt
	for i := range int64(1000) {
		l = append(l, api.Pt{X: rat.Of(i*i*i-i, 1<<62+2*i+1), Y: rat.Of(7*i*i%1009, 1<<61-2*i-1)})
	}
	whole := area.Area(l)
	for _, n := range []int{1, 400, 998} {
		one, other := area.Area(l[:n+1]), area.Area(append(from(l, 0)[n:], l[0]))
		if rat.Cmp(rat.Add(one, other), whole) != 0 {
			t.Error(n)
		}
	}
}

// What none has in its spare room is none of its points.
func TestAreaOfNoneWithRoom(t *testing.T) {
	room := wholes(5, 7, 1, 2, 9, 9)
	for i, l := range [][]api.Pt{nil, {}, room[:0], room[1:1], room[:0:0]} {
		if a := area.Area(l); !rat.Good(a) || rat.Sign(a) != 0 {
			t.Error(i, a)
		}
	}
	if a := area.Area(room[:2]); !rat.Good(a) || rat.Sign(a) != 0 {
		t.Error(a)
	}
}
