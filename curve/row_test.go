package curve

import (
	"slices"
	"testing"

	"gesso/api"
	"gesso/rat"
)

// Rows are told one by one: what is not asked for is not told.

func hom(x, y, w int64) api.Hom {
	return api.Hom{X: rat.Of(x, 1), Y: rat.Of(y, 1), W: rat.Of(w, 1)}
}

func homs(row []api.Hom) string {
	s := ""
	for _, h := range row {
		s += rat.Text(h.X) + " " + rat.Text(h.Y) + " " + rat.Text(h.W) + "; "
	}
	return s
}

func TestRows(t *testing.T) {
	l := []api.Hom{hom(0, 0, 1), hom(0, 8, 1), hom(8, 8, 3), hom(8, 0, 1)}
	want := []string{
		"0 0 1; 0 8 1; 8 8 3; 8 0 1; ",
		"0 4 1; 4 8 2; 8 4 2; ",
		"2 6 3/2; 6 6 2; ",
		"4 6 7/4; ",
	}
	all := rows(l, rat.Of(1, 2))
	for range 2 {
		var got []string
		for row := range all {
			got = append(got, homs(row))
		}
		if !slices.Equal(got, want) {
			t.Error(got)
		}
	}
	for n := range want {
		count := 0
		for row := range all {
			if homs(row) != want[count] {
				t.Error(n, count, homs(row))
			}
			if count++; count > n {
				break
			}
		}
		if count != n+1 {
			t.Error(n, count)
		}
	}
}

func TestRowsOfFew(t *testing.T) {
	for row := range rows(nil, rat.Of(1, 2)) {
		t.Error(homs(row))
	}
	count := 0
	for row := range rows([]api.Hom{hom(1, 2, 3)}, rat.Of(1, 2)) {
		if count++; homs(row) != "1 2 3; " {
			t.Error(homs(row))
		}
	}
	if count != 1 {
		t.Error(count)
	}
}
