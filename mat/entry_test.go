package mat_test

import (
	"slices"
	"testing"

	"gesso/api"
	"gesso/mat"
)

// A map's entries, as good fractions.

func TestEntries(t *testing.T) {
	for i, m := range allMaps() {
		want := m.numbers()
		for n := range 30 {
			if l := mat.Entries(shapedMap(m.given(), n)); !slices.EqualFunc(l, want, is) {
				t.Error(i, n, l)
			}
		}
	}
	if l := mat.Entries(api.Mat{}); !slices.EqualFunc(l, numbers("0 0 0 0 0 0"), is) {
		t.Error(l)
	}
	if l := mat.Entries(squareBy("1 2 3 4 5 6").given()); !slices.EqualFunc(l, numbers("1 2 3 4 5 6"), is) {
		t.Error(l)
	}
}
