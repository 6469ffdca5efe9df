package path_test

import (
	"math"
	"slices"
	"testing"

	"gesso/api"
	"gesso/path"
)

// P11.2: which parts are good; of others there is no text.

func checkGood(t *testing.T, want bool, l ...api.Seg) {
	t.Helper()
	if path.Good(l) != want {
		t.Error(parts(l...).text(), !want)
	}
	s, e := path.Text(l)
	if want && (s == "" || e != api.OK) || !want && (s != "" || e != api.ErrForm) {
		t.Error(parts(l...).text(), s[:min(len(s), 80)], e)
	}
}

func TestGoodOfFew(t *testing.T) {
	checkGood(t, false)
	checkGood(t, false, []api.Seg{}...)
	checkGood(t, true, move(0, 0))
	checkGood(t, true, move(1, 2), line(3, 4))
	checkGood(t, true, move(1, 2), move(3, 4))
	checkGood(t, true, move(1, 2), quad(3, 4, 5, 6))
	checkGood(t, true, move(1, 2), cubic(3, 4, 5, 6, 7, 8))
	checkGood(t, true, move(1, 2), conic(9, 3, 4, 5, 6))
	checkGood(t, true, move(1, 2), done())
	checkGood(t, true, move(1, 2), done(), line(3, 4), done(), move(5, 6), done())
	checkGood(t, true, move(0, 0), quad(), cubic(), conic(1), line(0, 0), done())
}

func TestFirstPartIsMove(t *testing.T) {
	for kind := -3; kind < 10; kind++ {
		s := api.Seg{Kind: kind}
		if kind == 5 {
			s.W = 1
		}
		checkGood(t, kind == 1, s)
		checkGood(t, kind == 1, s, move(1, 2))
		checkGood(t, kind >= 1 && kind <= 6, move(1, 2), s)
		checkGood(t, kind >= 1 && kind <= 6, move(1, 2), s, move(1, 2))
	}
}

func TestKindsThatAreNone(t *testing.T) {
	for _, kind := range []int{0, -1, 7, 8, 64, 255, 256, 257, 262, 1<<32 + 1, math.MaxInt, math.MinInt} {
		for _, w := range []int64{0, 1, 4096} {
			s := api.Seg{Kind: kind, W: w}
			checkGood(t, false, s)
			checkGood(t, false, move(1, 2), s)
			checkGood(t, false, move(1, 2), line(1, 2), s, line(3, 4))
		}
	}
}

// Each number of each kind, at the bounds and beyond, and where the kind has
// none.
func TestNumbersOfKinds(t *testing.T) {
	has := []int{0, 2, 2, 4, 6, 4, 0}
	values := []int64{0, 1, -1, most - 1, most, most + 1, most + 2, 1 - most, -most, -most - 1, -most - 2, 1 << 32, -1 << 32, 1<<32 + 5, 1 << 62, -1 << 62, math.MaxInt64, math.MinInt64, math.MinInt64 + 1}
	for kind := 1; kind < 7; kind++ {
		for i := range 6 {
			for _, v := range values {
				s := api.Seg{Kind: kind}
				if kind == 5 {
					s.W = 4096
				}
				s.V[i] = v
				want := v == 0 || i < has[kind] && v <= most && v >= -most
				checkGood(t, want, move(1, 2), s)
				checkGood(t, want, move(1, 2), s, move(3, 4))
				checkGood(t, want && kind == 1, s)
			}
		}
	}
}

func TestWeightsOfKinds(t *testing.T) {
	for kind := 1; kind < 7; kind++ {
		for _, w := range []int64{0, 1, 2, 64, 4095, 4096, 4097, -1, -4096, 1 << 12, 1<<32 + 1, -1<<32 + 1, math.MaxInt64, math.MinInt64} {
			want := w == 0
			if kind == 5 {
				want = w >= 1 && w <= 4096
			}
			checkGood(t, want, move(1, 2), seg(kind, w))
			checkGood(t, want && kind == 1, seg(kind, w))
			checkGood(t, want, move(1, 2), line(3, 4), seg(kind, w), line(5, 6))
		}
	}
}

func TestCloseBehindClose(t *testing.T) {
	checkGood(t, false, move(1, 2), done(), done())
	checkGood(t, false, move(1, 2), line(3, 4), done(), done())
	checkGood(t, false, move(1, 2), done(), done(), line(3, 4))
	checkGood(t, false, move(1, 2), done(), line(3, 4), done(), done())
	checkGood(t, false, done())
	checkGood(t, false, done(), done())
	for _, s := range []api.Seg{move(3, 4), line(3, 4), quad(1), cubic(1), conic(1)} {
		checkGood(t, true, move(1, 2), done(), s, done())
		checkGood(t, true, move(1, 2), done(), s, done(), s)
		checkGood(t, false, move(1, 2), done(), s, done(), done())
	}
}

func TestMaxSegsOfGood(t *testing.T) {
	l := append([]api.Seg{move(1, 2)}, slices.Repeat([]api.Seg{line(3, 4)}, 3*maxSegs)...)
	for n, want := range map[int]bool{1: true, 2: true, 4095: true, 4096: true, 4097: false, 4098: false, 8192: false, 12289: false} {
		checkGood(t, want, l[:n]...)
	}
	checkGood(t, true, slices.Repeat([]api.Seg{move(1, 2), done()}, 2048)...)
	checkGood(t, false, slices.Repeat([]api.Seg{move(1, 2), done()}, 2049)...)
	checkGood(t, false, slices.Repeat([]api.Seg{done()}, 5000)...)
	// the last one is looked at, too
	for _, bad := range []api.Seg{{}, {Kind: 7}, line(most+1, 0), {Kind: 2, W: 1}, {Kind: 5}} {
		checkGood(t, false, append(slices.Clone(l[:4095]), bad)...)
		checkGood(t, false, append(slices.Clone(l[:4096]), bad)...)
	}
}

func TestTextsOfFew(t *testing.T) {
	for want, l := range map[string][]api.Seg{
		"M 0 0":                       {move(0, 0)},
		"M 1 -2":                      {move(1, -2)},
		"M 0 0 L 64 0 Z":              {move(0, 0), line(64, 0), done()},
		"M 1 2 Q 3 4 5 6":             {move(1, 2), quad(3, 4, 5, 6)},
		"M 1 2 C 3 4 5 6 7 8":         {move(1, 2), cubic(3, 4, 5, 6, 7, 8)},
		"M 1 2 K 64 3 4 5 6":          {move(1, 2), conic(64, 3, 4, 5, 6)},
		"M 0 0 K 1 0 0 0 0 Z":         {move(0, 0), conic(1), done()},
		"M 1 2 L 3 4 Z L 5 6 Z M 2 3": {move(1, 2), line(3, 4), done(), line(5, 6), done(), move(2, 3)},
		"M 1 2 M 3 4 L 5 6 L 7 8":     {move(1, 2), move(3, 4), line(5, 6), line(7, 8)},
		"M -2147483647 2147483647 K 4096 1 2 3 4": {move(-most, most), conic(4096, 1, 2, 3, 4)},
		"M 0 0 Q 0 0 0 0 Q 0 0 1 1 C 0 0 0 0 0 0": {move(0, 0), quad(), quad(0, 0, 1, 1), cubic()},
		"M 1 2 L 1 2 L 9 2 L 9 -20000000":         {move(1, 2), line(1, 2), line(9, 2), line(9, -20000000)},
	} {
		if s, e := path.Text(l); s != want || e != api.OK {
			t.Errorf("%q, not %q: %v", s, want, e)
		}
	}
}
