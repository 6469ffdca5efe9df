package mat

import (
	"testing"

	"gesso/api"
	"gesso/rat"
)

// A list that is spoilt is told by Entries, and by nothing else.
func TestListStandsBeside(t *testing.T) {
	Entries(api.Mat{})
	kept := entries
	defer func() { entries = kept }()
	entries = []entry{func(api.Mat) api.Rat { return rat.Of(77, 1) }}
	if l := Entries(One()); len(l) != 1 || rat.Text(l[0]) != "77" {
		t.Error("the list is not read, or made more than once", l)
	}
	entries = nil
	m := Of([6]int64{65536, 2 * 65536, 3 * 65536, 4 * 65536, 5 * 64, 6 * 64})
	p := Apply(m, api.Pt{X: rat.Of(1, 1), Y: rat.Of(2, 1)})
	if rat.Text(p.X) != "12" || rat.Text(p.Y) != "16" || rat.Text(Det(m)) != "-2" {
		t.Error(p, Det(m))
	}
	undo, e := Inv(m)
	if e != api.OK || rat.Text(undo.E) != "1" || rat.Text(undo.F) != "-2" || !Same(Mul(m, undo), One()) || Same(m, undo) {
		t.Error(undo, e)
	}
}
