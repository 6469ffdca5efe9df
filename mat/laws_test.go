package mat_test

import (
	"testing"

	"gesso/api"
	"gesso/mat"
	"gesso/pt"
	"gesso/rat"
)

// P9.3, and what else follows from P9.1 and P9.2.

func TestApplyOfMul(t *testing.T) {
	for i, m := range allMaps() {
		for k, n := range allMaps() {
			a, b := shapedMap(m.given(), i+k), shapedMap(n.given(), i*k)
			both := mat.Mul(a, b)
			for j, v := range points() {
				p := shaped(point(v[0], v[1]), i+j+k)
				if !pt.Same(mat.Apply(both, p), mat.Apply(a, mat.Apply(b, p))) {
					t.Error(i, k, j)
				}
			}
		}
	}
}

func TestMulOfMapAndInv(t *testing.T) {
	for i, m := range turning() {
		for n := range 12 {
			a := shapedMap(m.given(), n)
			undo, e := mat.Inv(a)
			if e != api.OK || !mat.Same(mat.Mul(a, undo), mat.One()) || !mat.Same(mat.Mul(undo, a), mat.One()) {
				t.Error(i, n, e)
			}
			for k, v := range points() {
				p := point(v[0], v[1])
				if !pt.Same(mat.Apply(undo, mat.Apply(a, p)), p) || !pt.Same(mat.Apply(a, mat.Apply(undo, p)), p) {
					t.Error(i, n, k)
				}
			}
			if again, e := mat.Inv(undo); e != api.OK || !mat.Same(again, a) {
				t.Error(i, n, "twice", text(again), e)
			}
			if rat.Cmp(rat.Mul(mat.Det(a), mat.Det(undo)), rat.Of(1, 1)) != 0 {
				t.Error(i, n, "det")
			}
		}
	}
	if undo, e := mat.Inv(mat.One()); e != api.OK || !mat.Same(undo, mat.One()) {
		t.Error(text(undo), e)
	}
}

func TestMulOfOne(t *testing.T) {
	for i, m := range allMaps() {
		for n := range 12 {
			a := shapedMap(m.given(), n)
			if !isMap(mat.Mul(a, mat.One()), m) || !isMap(mat.Mul(mat.One(), a), m) {
				t.Error(i, n)
			}
		}
	}
}

// The Det of both is the product of the Dets, and who stands beside whom does
// not matter. What undoes both undoes the last one first.
func TestMulOfMul(t *testing.T) {
	l := allMaps()
	for i, x := range l {
		for k, y := range l {
			m, n, o := x.given(), y.given(), l[(i+2*k)%len(l)].given()
			both := mat.Mul(m, n)
			if rat.Cmp(mat.Det(both), rat.Mul(mat.Det(m), mat.Det(n))) != 0 {
				t.Error(i, k, "det")
			}
			if !mat.Same(mat.Mul(both, o), mat.Mul(m, mat.Mul(n, o))) {
				t.Error(i, k, "three")
			}
			undo, e := mat.Inv(both)
			undoM, e1 := mat.Inv(m)
			undoN, e2 := mat.Inv(n)
			if (e == api.OK) != (e1 == api.OK && e2 == api.OK) {
				t.Error(i, k, e, e1, e2)
			}
			if e == api.OK && !mat.Same(undo, mat.Mul(undoN, undoM)) {
				t.Error(i, k, "undone")
			}
		}
	}
}

// What m makes of three points turns as they do, or the other way if its Det
// is below 0, and not at all if it is 0.
func TestDetTellsTheSide(t *testing.T) {
	for i, m := range allMaps() {
		a := m.given()
		for _, l := range [][3]api.Pt{{whole(0, 0), whole(1, 0), whole(0, 1)}, {whole(5, -1), whole(7, 7), whole(-3, 2)}, {whole(1, 1), whole(0, 9), whole(2, -9)}} {
			ahead := pt.Orient(l[0], l[1], l[2])
			if n := pt.Orient(mat.Apply(a, l[0]), mat.Apply(a, l[1]), mat.Apply(a, l[2])); n != ahead*m.det().Sign() {
				t.Error(i, n, ahead)
			}
		}
	}
}
