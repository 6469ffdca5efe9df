package area_test

import (
	"reflect"
	"testing"

	"gesso/api"
	"gesso/area"
)

// P8.1: Box.

func TestBoxOfFew(t *testing.T) {
	for _, x := range []struct {
		what string
		xy   []int64
		s    string
	}{
		{"one point", []int64{3, -1}, "3 -1; 3 -1"},
		{"(0, 0)", []int64{0, 0}, "0 0; 0 0"},
		{"one point twice", []int64{3, -1, 3, -1}, "3 -1; 3 -1"},
		{"two points", []int64{3, 1, -1, 5}, "-1 1; 3 5"},
		{"two points, the least one first", []int64{-1, 1, 3, 5}, "-1 1; 3 5"},
		{"two points, the least one last", []int64{3, 5, -1, 1}, "-1 1; 3 5"},
		{"a level line", []int64{3, 2, 9, 2, 5, 2}, "3 2; 9 2"},
		{"an upright line", []int64{3, 2, 3, -2, 3, 0}, "3 -2; 3 2"},
		{"three points", []int64{3, 1, -1, 5, 2, 2}, "-1 1; 3 5"},
		{"each from another point", []int64{0, 1, 5, 0, 9, 2, 4, 7}, "0 0; 9 7"},
		{"all below 0", []int64{-3, -1, -1, -5, -2, -2}, "-3 -5; -1 -1"},
		{"all above 0", []int64{3, 1, 1, 5, 2, 2}, "1 1; 3 5"},
	} {
		least, most, ok := area.Box(wholes(x.xy...))
		if s := texts([]api.Pt{least, most}); s != x.s || !ok {
			t.Error(x.what, s, ok)
		}
	}
}

// Each figure behind each map, its points in any order, in any form.
func TestBoxOfFewMapped(t *testing.T) {
	for i, m := range planes() {
		for _, x := range figures() {
			l := m.all(x.xy)
			for n := range l {
				low, high := bounds(l)
				for k, g := range [][]api.Pt{givens(from(l, n)), givens(back(from(l, n))), allShaped(givens(from(l, n)), n), allShaped(givens(from(l, n)), 7*n+2)} {
					least, most, ok := area.Box(g)
					if !ok || !isPoint(least, low) || !isPoint(most, high) {
						t.Error(i, x.what, n, k, texts([]api.Pt{least, most}), ok)
					}
				}
			}
		}
	}
}

// One point in two forms, which are the same to compare: what is told is good.
func TestBoxOfOnePointInTwoForms(t *testing.T) {
	for i, m := range planes() {
		for _, v := range m.grid(2, 2) {
			for n := range 20 {
				p := given(v)
				for k, l := range [][]api.Pt{{shaped(p, n)}, {shaped(p, n), p}, {p, shaped(p, n)}, {shaped(p, n), shaped(p, n+1)}} {
					least, most, ok := area.Box(l)
					if !ok || !isPoint(least, v) || !isPoint(most, v) {
						t.Error(i, v, n, k, least, most, ok)
					}
				}
			}
		}
	}
}

// Of none all is nothing.
func TestBoxOfNone(t *testing.T) {
	room := wholes(5, 7, 1, 2)
	for i, l := range [][]api.Pt{nil, {}, room[:0], room[1:1]} {
		least, most, ok := area.Box(l)
		if ok || !reflect.DeepEqual(least, api.Pt{}) || !reflect.DeepEqual(most, api.Pt{}) {
			t.Error(i, least, most, ok)
		}
	}
}
