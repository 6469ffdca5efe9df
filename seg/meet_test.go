package seg_test

import (
	"strings"
	"testing"

	"gesso/api"
	"gesso/rat"
	"gesso/seg"
)

// P7.1: Meet.

func texts(l []api.Pt) string {
	var s []string
	for _, p := range l {
		s = append(s, rat.Text(p.X)+" "+rat.Text(p.Y))
	}
	return strings.Join(s, "; ")
}

// pair is two segments and what they have in common.
type pair struct {
	what string
	xy   [8]int64
	s    string
}

func pairs() []pair {
	return []pair{
		{"cross within both", [8]int64{0, 0, 2, 2, 0, 2, 2, 0}, "1 1"},
		{"cross within both, not half way", [8]int64{0, 0, 3, 1, 0, 1, 3, -1}, "1 1/3"},
		{"cross upright and level", [8]int64{-5, 1, 7, 1, 2, -3, 2, 9}, "2 1"},
		{"cross a little from an end", [8]int64{0, 0, 1000000007, 1, 1, -1, 1, 1}, "1 1/1000000007"},
		{"an end within the other", [8]int64{0, 0, 2, 0, 1, 0, 1, 5}, "1 0"},
		{"the other end within the other", [8]int64{0, 0, 2, 0, 1, 5, 1, 0}, "1 0"},
		{"the first one's end within the other", [8]int64{1, 5, 1, 0, 0, 0, 2, 0}, "1 0"},
		{"an end of both, across", [8]int64{0, 0, 2, 0, 2, 0, 3, 7}, "2 0"},
		{"an end of both, both begin", [8]int64{2, 0, 0, 0, 2, 0, 3, 7}, "2 0"},
		{"miss ahead of an end", [8]int64{0, 0, 2, 0, 1, 1, 1, 5}, ""},
		{"miss beyond the first one", [8]int64{0, 0, 2, 0, 3, -1, 3, 1}, ""},
		{"miss ahead of the first one", [8]int64{0, 0, 2, 0, -1, -1, -1, 1}, ""},
		{"miss, though side by side in X and in Y", [8]int64{0, 0, 4, 4, 3, 0, 4, 2}, ""},
		{"miss by the second one's end alone", [8]int64{0, 0, 4, 4, 3, 0, 3, 2}, ""},
		{"miss by the first one's end alone", [8]int64{0, 0, 1, 1, 0, 4, 4, 0}, ""},
		{"parallel beside, level", [8]int64{0, 0, 3, 0, 0, 1, 3, 1}, ""},
		{"parallel beside, upright", [8]int64{0, 0, 0, 3, 1, 3, 1, 0}, ""},
		{"parallel beside, neither", [8]int64{0, 0, 4, 4, 1, 0, 4, 3}, ""},
		{"parallel beside, of other lengths", [8]int64{0, 0, 4, 2, 0, 1, 2, 2}, ""},
		{"one line, apart", [8]int64{0, 0, 3, 0, 4, 0, 5, 0}, ""},
		{"one line, apart, neither level nor upright", [8]int64{0, 0, 2, 4, 5, 10, 3, 6}, ""},
		{"one line, an end of both", [8]int64{0, 0, 3, 0, 3, 0, 5, 0}, "3 0"},
		{"one line, an end of both, both end", [8]int64{0, 0, 3, 3, 5, 5, 3, 3}, "3 3"},
		{"one line, an end of both, both begin", [8]int64{3, 3, 0, 0, 3, 3, 5, 5}, "3 3"},
		{"one line, the second within", [8]int64{0, 0, 3, 0, 1, 0, 2, 0}, "1 0; 2 0"},
		{"one line, the second within, against", [8]int64{0, 0, 3, 0, 2, 0, 1, 0}, "1 0; 2 0"},
		{"one line, the first within", [8]int64{1, 0, 2, 0, 0, 0, 3, 0}, "1 0; 2 0"},
		{"one line, the first within, against", [8]int64{2, 0, 1, 0, 0, 0, 3, 0}, "2 0; 1 0"},
		{"one line, the second within, to the first one's end", [8]int64{0, 0, 3, 0, 1, 0, 3, 0}, "1 0; 3 0"},
		{"one line, the second within, from the first one's beginning", [8]int64{0, 0, 3, 0, 1, 0, 0, 0}, "0 0; 1 0"},
		{"one line, the first within, to the second one's end", [8]int64{0, 2, 0, 6, 0, 0, 0, 6}, "0 2; 0 6"},
		{"one line, in part", [8]int64{0, 0, 3, 0, 1, 0, 5, 0}, "1 0; 3 0"},
		{"one line, in part, against", [8]int64{0, 0, 3, 0, 5, 0, 1, 0}, "1 0; 3 0"},
		{"one line, in part, the first turned", [8]int64{3, 0, 0, 0, 5, 0, 1, 0}, "3 0; 1 0"},
		{"one line, in part, at the beginning", [8]int64{0, 0, 3, 3, -2, -2, 1, 1}, "0 0; 1 1"},
		{"the same", [8]int64{0, 0, 3, 3, 0, 0, 3, 3}, "0 0; 3 3"},
		{"the same, against", [8]int64{0, 0, 3, 3, 3, 3, 0, 0}, "0 0; 3 3"},
		{"the same, the first one turned", [8]int64{3, 1, 0, 2, 0, 2, 3, 1}, "3 1; 0 2"},
		{"a point on the second", [8]int64{1, 1, 1, 1, 0, 0, 2, 2}, "1 1"},
		{"a point on the first", [8]int64{0, 0, 2, 2, 1, 1, 1, 1}, "1 1"},
		{"a point at an end of the second", [8]int64{2, 2, 2, 2, 0, 0, 2, 2}, "2 2"},
		{"a point at an end of the first", [8]int64{0, 0, 2, 2, 0, 0, 0, 0}, "0 0"},
		{"a point on the second's line, beyond", [8]int64{3, 3, 3, 3, 0, 0, 2, 2}, ""},
		{"a point on the first one's line, ahead", [8]int64{0, 0, 2, 2, -1, -1, -1, -1}, ""},
		{"a point off the second", [8]int64{1, 2, 1, 2, 0, 0, 2, 2}, ""},
		{"a point off the first", [8]int64{0, 0, 2, 2, 1, 0, 1, 0}, ""},
		{"one point twice", [8]int64{1, 1, 1, 1, 1, 1, 1, 1}, "1 1"},
		{"two points", [8]int64{1, 1, 1, 1, 2, 1, 2, 1}, ""},
	}
}

func TestMeetOfFew(t *testing.T) {
	for _, x := range pairs() {
		v := x.xy
		l := seg.Meet(whole(v[0], v[1]), whole(v[2], v[3]), whole(v[4], v[5]), whole(v[6], v[7]))
		if s := texts(l); s != x.s {
			t.Error(x.what, s)
		}
	}
}

// The same pairs behind each map, with parts of several limbs.
func TestMeetOfFewMapped(t *testing.T) {
	for i, m := range planes() {
		for _, x := range pairs() {
			v := x.xy
			a, b, c, d := m.of(v[0], v[1]), m.of(v[2], v[3]), m.of(v[4], v[5]), m.of(v[6], v[7])
			want := met(a, b, c, d)
			if l := seg.Meet(given(a), given(b), given(c), given(d)); !arePoints(l, want) {
				t.Error(i, x.what, l)
			}
			if n := (strings.Count(x.s, " ") + 1) / 2; n != len(want) {
				t.Error(i, x.what, "the test itself", n, want)
			}
		}
	}
}

// Forms that are not good count as the good ones; one point may come in two
// forms.
func TestMeetOfForms(t *testing.T) {
	for i, m := range planes() {
		for _, x := range pairs() {
			v := x.xy
			a, b, c, d := m.of(v[0], v[1]), m.of(v[2], v[3]), m.of(v[4], v[5]), m.of(v[6], v[7])
			want := met(a, b, c, d)
			as, bs, cs, ds := shapes(given(a)), shapes(given(b)), shapes(given(c)), shapes(given(d))
			for n := range max(len(as), len(bs), len(cs), len(ds)) {
				p, q, r, s := as[n%len(as)], bs[(n+5)%len(bs)], cs[(2*n+3)%len(cs)], ds[(3*n+1)%len(ds)]
				if l := seg.Meet(p, q, r, s); !arePoints(l, want) {
					t.Error(i, x.what, p, q, r, s, l)
				}
			}
		}
	}
}

// All segments of a grid, with each other.
func TestMeetOfGrid(t *testing.T) {
	for i, m := range planes() {
		l := m.grid(4, 2)
		if i == 0 {
			l = m.grid(4, 3)
		}
		for _, a := range l {
			for _, b := range l {
				for _, c := range l {
					for _, d := range l {
						got := seg.Meet(given(a), given(b), given(c), given(d))
						if !arePoints(got, met(a, b, c, d)) {
							t.Error(i, a, b, c, d, got)
						}
					}
				}
			}
		}
	}
}

// What is very near to an end, on either side of it.
func TestMeetNextToAnEnd(t *testing.T) {
	for i, m := range planes() {
		a, b, c, d := m.of(0, 0), m.of(6, 4), m.of(0, 4), m.of(6, 0)
		for _, s := range []string{"1/2", "1e-70", "18446744073709551615/18446744073709551616", "1"} {
			little := number(s)
			half := mixed(a, b, number("1/2"))
			ahead, behind := mixed(half, c, little), mixed(half, d, little)
			for _, x := range []struct {
				p, q point
				n    int
			}{{c, ahead, 0}, {c, half, 1}, {c, behind, 1}, {ahead, behind, 1}, {half, behind, 1}, {behind, d, 0}, {ahead, c, 0}} {
				l := seg.Meet(given(a), given(b), given(x.p), given(x.q))
				if len(l) != x.n || x.n == 1 && !isPoint(l[0], half) {
					t.Error(i, s, x.p, x.q, l)
				}
			}
			inside, beyond := mixed(half, b, little), mixed(half, a, little)
			for _, x := range []struct {
				p, q, r, s point
				want       []point
			}{{a, half, half, b, []point{half}}, {a, half, inside, b, nil}, {a, half, beyond, b, []point{beyond, half}}, {half, a, b, beyond, []point{half, beyond}}, {half, a, b, inside, nil}} {
				l := seg.Meet(given(x.p), given(x.q), given(x.r), given(x.s))
				if !arePoints(l, x.want) {
					t.Error(i, s, "one line", x.p, x.q, x.r, x.s, l)
				}
			}
		}
	}
}

func TestMeetOfNothing(t *testing.T) {
	var o api.Pt
	if s := texts(seg.Meet(o, o, o, o)); s != "0 0" {
		t.Error(s)
	}
	if l := seg.Meet(o, o, o, whole(1, 0)); !arePoints(l, []point{at("0", "0")}) {
		t.Error(l)
	}
	if l := seg.Meet(whole(-1, -1), whole(1, 1), o, o); !arePoints(l, []point{at("0", "0")}) {
		t.Error(l)
	}
	if l := seg.Meet(whole(1, -1), whole(1, 1), o, o); len(l) != 0 {
		t.Error(l)
	}
}
