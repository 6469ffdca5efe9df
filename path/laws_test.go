package path_test

import (
	"slices"
	"strconv"
	"strings"
	"testing"

	"gesso/api"
	"gesso/path"
)

// P11.3: Parse of the tokens of Text is the path; and what Parse tells is
// good.

// plain is the text of l, by another implementation.
func plain(l []api.Seg) string {
	var words []string
	for _, s := range l {
		words = append(words, strings.Split("?MLQCKZ", "")[s.Kind])
		numbers := s.V[:[]int{0, 2, 2, 4, 6, 4, 0}[s.Kind]]
		if s.Kind == 5 {
			numbers = append([]int64{s.W}, numbers...)
		}
		for _, n := range numbers {
			words = append(words, strconv.FormatInt(n, 10))
		}
	}
	return strings.Join(words, " ")
}

func checkBack(t *testing.T, l []api.Seg) {
	t.Helper()
	s, e := path.Text(l)
	if !path.Good(l) || e != api.OK || s != plain(l) {
		t.Fatal(parts(l...).text(), s[:min(len(s), 80)], e)
	}
	check(t, s, parts(l...))
}

// goodPath is a path of n parts, of all kinds.
func goodPath(d *dice, n, size int) []api.Seg {
	values := func(n int) []int64 {
		var l []int64
		for range n {
			l = append(l, int64(d.throw(2*size+1)-size))
		}
		return l
	}
	l := []api.Seg{move(int64(d.throw(size)), -int64(d.throw(size)))}
	for len(l) < n {
		switch d.throw(6) {
		case 0:
			l = append(l, seg(1, 0, values(2)...))
		case 1:
			l = append(l, seg(2, 0, values(2)...))
		case 2:
			l = append(l, seg(3, 0, values(4)...))
		case 3:
			l = append(l, seg(4, 0, values(6)...))
		case 4:
			l = append(l, seg(5, int64(1+d.throw(4096)), values(4)...))
		case 5:
			if l[len(l)-1].Kind != 6 {
				l = append(l, done())
			}
		}
	}
	return l
}

func TestTextAndBack(t *testing.T) {
	d := dice(11)
	for n := range 3000 {
		checkBack(t, goodPath(&d, 1+n%40, []int{2, 100, 70000, most}[n%4]))
	}
}

// All short lists of kinds, with numbers at the bounds.
func TestShortListsAndBack(t *testing.T) {
	kinds := []api.Seg{move(most, -most), line(-most, most), quad(1, -most, most, 0), cubic(-most, -most, most, most, 0, -1), conic(1, most, most, -most, -most), conic(4096, 0, 0, 0, 1), done()}
	var grow func(l []api.Seg, n int)
	grow = func(l []api.Seg, n int) {
		checkBack(t, l)
		if n == 0 {
			return
		}
		for _, s := range kinds {
			if s.Kind != 6 || l[len(l)-1].Kind != 6 {
				grow(append(slices.Clip(l), s), n-1)
			}
		}
	}
	grow([]api.Seg{move(0, 0)}, 5)
}

// What Parse tells of any path is good, and its text is that path.
func TestParsedIsGood(t *testing.T) {
	d := dice(5)
	for range 3000 {
		if want := agree(t, longPath(&d, 20, 100000)); want.e == api.OK {
			checkBack(t, want.list)
		}
	}
}

// The greatest path there is.
func TestMaxSegsAndBack(t *testing.T) {
	d := dice(2)
	checkBack(t, goodPath(&d, maxSegs, most))
	great := cubic(-most, -most, -most, -most, -most, -most)
	checkBack(t, append([]api.Seg{move(-most, -most)}, slices.Repeat([]api.Seg{great}, maxSegs-1)...))
	checkBack(t, slices.Repeat([]api.Seg{move(1, 2), done()}, maxSegs/2))
}
