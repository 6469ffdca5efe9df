package halve_test

import (
	"testing"

	"gesso/api"
	"gesso/halve"
)

// P14.1: Many.

func TestManyOfFew(t *testing.T) {
	for i, x := range []struct {
		l    string
		deep int
		want string
	}{
		{"0 0 1; 1 2 1; 2 0 1", 0, "0 0 1; 1 2 1; 2 0 1; "},
		{"0 0 1; 1 2 1; 2 0 1", 1, "0 0 1; 1/2 1 1; 1 1 1; \n1 1 1; 3/2 1 1; 2 0 1; "},
		{"0 0 1; 1 2 1; 2 0 1", 2, "0 0 1; 1/4 1/2 1; 1/2 3/4 1; \n1/2 3/4 1; 3/4 1 1; 1 1 1; \n1 1 1; 5/4 1 1; 3/2 3/4 1; \n3/2 3/4 1; 7/4 1/2 1; 2 0 1; "},
		{"0 0 1; 8 0 5", 2, "0 0 1; 2 0 2; \n2 0 2; 4 0 3; \n4 0 3; 6 0 4; \n6 0 4; 8 0 5; "},
		{"0 0 1; 8 0 1", 3, "0 0 1; 1 0 1; \n1 0 1; 2 0 1; \n2 0 1; 3 0 1; \n3 0 1; 4 0 1; \n4 0 1; 5 0 1; \n5 0 1; 6 0 1; \n6 0 1; 7 0 1; \n7 0 1; 8 0 1; "},
		{"0 0 1; 0 8 1; 8 8 1; 8 0 1", 1, "0 0 1; 0 4 1; 2 6 1; 4 6 1; \n4 6 1; 6 6 1; 8 4 1; 8 0 1; "},
		{"3 -2 2; 3 -2 2", 1, "3 -2 2; 3 -2 2; \n3 -2 2; 3 -2 2; "},
	} {
		m, e := halve.Many(given(controls(x.l)), x.deep)
		if texts(m) != x.want || e != api.OK {
			t.Error(i, texts(m), e)
		}
	}
}

func TestMany(t *testing.T) {
	for i, c := range curves() {
		for deep := range 6 {
			check(t, c, given(c), deep)
			check(t, c, shaped(given(c), i+deep), deep)
		}
	}
}

func TestManyOfMost(t *testing.T) {
	for _, s := range []string{"1/3 -1/7 1/64; 22/7 0 64", "1 0 1; 1 1 1; 0 2 2", "-1/2 7 5/3; 0 0 1/7; 22/7 -13/11 1; 1/64 1/65536 2"} {
		c := controls(s)
		for _, deep := range deeps[6:] {
			check(t, c, shaped(given(c), deep), deep)
		}
	}
}

// So many parts, each of as many control points as the whole; the first one
// begins, the last one ends where the whole does, and each of the others
// begins where the one ahead of it ends.
func TestPartsMeet(t *testing.T) {
	for i, c := range curves() {
		for _, deep := range deeps {
			if deep > 5 && i%6 != deep%6 {
				continue
			}
			l := shaped(given(c), deep)
			m, e := halve.Many(l, deep)
			if len(m) != 1<<deep || e != api.OK {
				t.Fatal(i, deep, len(m), e)
			}
			end := text(l[:1])
			for k, part := range m {
				if len(part) != len(l) || text(part[:1]) != end {
					t.Fatal(i, deep, k, text(part))
				}
				end = text(part[len(part)-1:])
			}
			if end != text(l[len(l)-1:]) {
				t.Error(i, deep, end)
			}
		}
	}
}

// Once more is each part's left half and its right one; not at all is the
// whole, once is Cut.
func TestManyIsCutAgainAndAgain(t *testing.T) {
	for i, c := range curves() {
		l := shaped(given(c), i)
		m, e := halve.Many(l, 0)
		if len(m) != 1 || !is(m[0], c) || e != api.OK {
			t.Error(i, texts(m), e)
		}
		for deep := range 5 {
			var next [][]api.Hom
			for _, part := range m {
				a, b, e := halve.Cut(part)
				if next = append(next, a, b); e != api.OK {
					t.Error(i, deep, e)
				}
			}
			m, e = halve.Many(l, deep+1)
			if texts(m) != texts(next) || e != api.OK {
				t.Error(i, deep, texts(m), e)
			}
		}
	}
}

func TestManyOfDeeps(t *testing.T) {
	for _, deep := range deeps {
		for n := 2; n < 5; n++ {
			if m, e := halve.Many(plain(n), deep); len(m) != 1<<deep || e != api.OK {
				t.Error(n, deep, len(m), e)
			}
		}
	}
	for _, deep := range noDeeps {
		for n := 2; n < 5; n++ {
			if m, e := halve.Many(plain(n), deep); len(m) != 0 || e != api.ErrArg {
				t.Error(n, deep, len(m), e)
			}
		}
	}
}

// That it can't be cut so many times goes ahead of that there is no curve.
func TestManyOfNoCurve(t *testing.T) {
	for i, l := range badLists() {
		for _, deep := range deeps {
			if m, e := halve.Many(l, deep); len(m) != 0 || e != api.ErrForm {
				t.Error(i, len(l), deep, len(m), e)
			}
		}
		for _, deep := range noDeeps {
			if m, e := halve.Many(l, deep); len(m) != 0 || e != api.ErrArg {
				t.Error(i, len(l), deep, len(m), e)
			}
		}
	}
}
