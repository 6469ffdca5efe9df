package mat_test

import (
	"testing"

	"gesso/api"
	"gesso/mat"
)

// P9.1: Det. P9.2: Inv.

func TestDetOfFew(t *testing.T) {
	for i, x := range []struct{ m, d string }{
		{"1 0 0 1 0 0", "1"},
		{"1 0 0 1 100 -200", "1"},
		{"1 2 3 4 5 6", "-2"},
		{"2 1 -1 3 1 -1/2", "7"},
		{"0 1 -1 0 0 0", "1"},
		{"0 1 1 0 0 0", "-1"},
		{"-1 0 0 1 5 0", "-1"},
		{"-1 0 0 -1 0 0", "1"},
		{"1/2 1/3 1/5 1/7 1 1", "1/210"},
		{"2 0 0 3 1 1", "6"},
		{"0 2 3 0 1 1", "-6"},
		{"0 0 0 0 3 5", "0"},
		{"1 2 2 4 3 5", "0"},
		{"18446744073709551617 18446744073709551616 18446744073709551616 18446744073709551615 1 1", "-1"},
	} {
		if d := mat.Det(squareBy(x.m).given()); !is(d, number(x.d)) {
			t.Error(i, d)
		}
	}
	if d := mat.Det(api.Mat{}); !is(d, number("0")) {
		t.Error(d)
	}
}

func TestDet(t *testing.T) {
	below := 0
	for i, m := range allMaps() {
		want := m.det()
		for n := range 30 {
			if d := mat.Det(shapedMap(m.given(), n)); !is(d, want) {
				t.Error(i, n, d)
			}
		}
		for k, a := range inOneForm(m.given()) {
			if d := mat.Det(a); !is(d, want) {
				t.Error(i, k, d)
			}
		}
		if want.Sign() < 0 {
			below++
		}
	}
	if below < 5 {
		t.Error("the test itself", below)
	}
}

func TestInvOfFew(t *testing.T) {
	for i, x := range []struct{ m, undo string }{
		{"1 0 0 1 0 0", "1 0 0 1 0 0"},
		{"1 0 0 1 3 -2", "1 0 0 1 -3 2"},
		{"2 0 0 4 6 -2", "1/2 0 0 1/4 -3 1/2"},
		{"0 1 -1 0 0 0", "0 -1 1 0 0 0"},
		{"0 1 -1 0 3 5", "0 -1 1 0 -5 3"},
		{"-1 0 0 1 5 0", "-1 0 0 1 5 0"},
		{"0 1 1 0 2 3", "0 1 1 0 -3 -2"},
		{"1 2 3 4 5 6", "-2 1 3/2 -1/2 1 -2"},
		{"2 1 -1 3 1 -1/2", "3/7 -1/7 1/7 2/7 -5/14 2/7"},
	} {
		undo, e := mat.Inv(squareBy(x.m).given())
		if e != api.OK || !isMap(undo, squareBy(x.undo)) {
			t.Error(i, text(undo), e)
		}
		again, e := mat.Inv(undo)
		if e != api.OK || text(again) != x.m {
			t.Error(i, text(again), e)
		}
	}
}

func TestInv(t *testing.T) {
	for i, m := range turning() {
		want := m.undone()
		if !m.times(want).equal(squareBy("1 0 0 1 0 0")) {
			t.Fatal("the test itself", i)
		}
		for n := range 30 {
			undo, e := mat.Inv(shapedMap(m.given(), n))
			if e != api.OK || !isMap(undo, want) {
				t.Error(i, n, text(undo), e)
			}
		}
		for k, a := range inOneForm(m.given()) {
			undo, e := mat.Inv(a)
			if e != api.OK || !isMap(undo, want) {
				t.Error(i, k, text(undo), e)
			}
		}
	}
}

func TestInvOfNone(t *testing.T) {
	for i, m := range flattening() {
		if m.det().Sign() != 0 {
			t.Fatal("the test itself", i)
		}
		for n := range 30 {
			if undo, e := mat.Inv(shapedMap(m.given(), n)); e != api.ErrZero || !none(undo) {
				t.Error(i, n, undo, e)
			}
		}
		for k, a := range inOneForm(m.given()) {
			if undo, e := mat.Inv(a); e != api.ErrZero || !none(undo) {
				t.Error(i, k, undo, e)
			}
		}
	}
	if undo, e := mat.Inv(api.Mat{}); e != api.ErrZero || !none(undo) {
		t.Error(undo, e)
	}
}

// A map that is nearly one that can't be undone can be undone.
func TestInvOfNearlyNone(t *testing.T) {
	for i, m := range flattening() {
		for k := range 4 {
			n := m.numbers()
			n[k] = number("1e-70").Add(number("1e-70"), n[k])
			near := squareOf(n)
			undo, e := mat.Inv(near.given())
			if near.det().Sign() == 0 {
				if e != api.ErrZero || !none(undo) {
					t.Error(i, k, undo, e)
				}
			} else if e != api.OK || !isMap(undo, near.undone()) {
				t.Error(i, k, text(undo), e)
			}
		}
	}
}
