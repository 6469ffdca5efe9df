package cmd_test

import (
	"math"
	"slices"
	"strings"
	"testing"

	"gesso/api"
	"gesso/cmd"
)

// P12.2: which commands are good; of others there is no text.

func checkGood(t *testing.T, want bool, l ...api.Cmd) {
	t.Helper()
	if cmd.Good(l) != want {
		t.Error(script(l...).text(), !want)
	}
	s, e := cmd.Text(l)
	if want && (s == "" || e != api.OK) || !want && (s != "" || e != api.ErrForm) {
		t.Error(script(l...).text(), s[:min(len(s), 80)], e)
	}
}

// checkSecond asks of c behind a canvas, and between good commands.
func checkSecond(t *testing.T, want bool, c api.Cmd) {
	t.Helper()
	push := command(3, 0)
	checkGood(t, want, canvas(), c)
	checkGood(t, want, canvas(), push, c, push)
	checkGood(t, false, c)
	checkGood(t, false, c, push)
}

func move() api.Seg { return part(api.Move, 0, 1, 2) }

// goodOnes are a good command of each kind, at its place.
func goodOnes() []api.Cmd {
	return []api.Cmd{
		canvas(), command(2, 0, 1, 0, 0, 1, 0, 0), command(3, 0), command(4, 0), command(5, 0, 1), command(6, 0, 1, 2, 3, 4), command(7, 0, 5), command(8, 0, 6), command(9, 0, 2), command(10, 0, 0), command(11, 0, 99), command(12, 0, 1, 2, 3), drawing(13, 0, move()), drawing(14, 0, move()), drawing(15, 0, move()),
	}
}

func TestGoodOfFew(t *testing.T) {
	checkGood(t, false)
	checkGood(t, false, []api.Cmd{}...)
	checkGood(t, true, canvas())
	checkGood(t, true, goodOnes()...)
	for _, c := range goodOnes()[1:] {
		checkSecond(t, true, c)
		checkGood(t, true, canvas(), c, c, c)
	}
	checkGood(t, false, goodOnes()[1:]...)
}

func TestOneCanvasOfGood(t *testing.T) {
	checkGood(t, false, canvas(), canvas())
	checkGood(t, false, canvas(), command(3, 0), canvas())
	checkGood(t, false, command(3, 0), canvas())
	checkGood(t, false, append(goodOnes(), canvas())...)
	checkGood(t, false, append(goodOnes(), goodOnes()...)...)
}

func TestKindsThatAreNone(t *testing.T) {
	for _, kind := range []int{0, -1, -15, 16, 17, 64, 255, 256, 257, 259, 1<<32 + 3, math.MaxInt, math.MinInt} {
		for _, n := range [][]int64{nil, {1}, {1, 2, 3}, {2, 3, 0, 0, 0}} {
			checkSecond(t, false, command(kind, 0, n...))
			checkSecond(t, false, drawing(kind, 0, move()))
		}
	}
}

// Each kind with all counts of numbers, all of which could stand there.
func TestCountsOfNumbers(t *testing.T) {
	has := map[int]int{1: 5, 2: 6, 6: 4, 5: 1, 7: 1, 8: 1, 9: 1, 10: 1, 11: 1}
	for kind := 1; kind < 16; kind++ {
		for n := range 40 {
			list := slices.Repeat([]int64{1}, n)
			switch kind {
			case 2:
				copy(list, []int64{1, 0, 0, 1})
			case 11:
				list = slices.Repeat([]int64{100}, n)
			}
			want := n == has[kind] && kind < 13
			if kind == 12 {
				want = n == 0 || n%2 == 1 && n >= 3 && n <= 17
			}
			if kind == 1 {
				checkGood(t, want, command(1, 0, list...))
				continue
			}
			checkSecond(t, want, command(kind, 0, list...))
		}
	}
	checkSecond(t, false, command(12, 0, slices.Repeat([]int64{1}, 100001)...))
}

func TestRangesOfNumbers(t *testing.T) {
	ranges := map[int][][2]int64{
		1:  {{1, 8192}, {1, 8192}, {0, 255}, {0, 255}, {0, 255}},
		2:  {{-most, most}, {-most, most}, {-most, most}, {-most, most}, {-most, most}, {-most, most}},
		5:  {{0, 1}},
		6:  {{0, 255}, {0, 255}, {0, 255}, {0, 255}},
		7:  {{1, 1048576}},
		8:  {{-most, most}},
		9:  {{0, 2}},
		10: {{0, 2}},
		11: {{64, 4096}},
		12: {{0, most}, {0, most}, {0, most}},
	}
	values := []int64{0, 1, -1, 2, 3, 4, 63, 64, 65, 254, 255, 256, 4095, 4096, 4097, 8191, 8192, 8193, 1048575, 1048576, 1048577, most - 1, most, most + 1, most + 2, 1 - most, -most, -most - 1, -most - 2, 1 << 32, 1<<32 + 1, 1<<32 + 64, -1 << 32, 1 << 62, -1 << 62, math.MaxInt64, math.MinInt64, math.MinInt64 + 1}
	for kind, spans := range ranges {
		for i, span := range spans {
			for _, v := range values {
				c := goodOnes()[kind-1]
				if kind == 2 { // such that no 0 leaves it without an inverse
					c.N = map[bool][]int64{true: {2, 1, 1, 1, 0, 0}, false: {1, 1, 1, 2, 0, 0}}[i%3 != 0]
					c.N = slices.Clone(c.N)
				}
				c.N[i] = v
				want := span[0] <= v && v <= span[1]
				if kind == 2 && c.N[0]*c.N[3] == c.N[1]*c.N[2] {
					want = false
				}
				if kind == 1 {
					checkGood(t, want, c)
					checkGood(t, want, c, command(3, 0))
					continue
				}
				checkSecond(t, want, c)
			}
		}
	}
}

func TestInversesOfGood(t *testing.T) {
	for _, n := range [][]int64{{0, 0, 0, 0, 0, 0}, {1, 2, 2, 4, 0, 0}, {most, most, most, most, 1, 1}, {most, -most, -most, most, 0, 0}, {0, 5, 0, 7, 0, 0}, {0, 0, 5, 7, 0, 0}, {65536, 65536, 65536, 65536, 0, 0}} {
		checkSecond(t, false, command(2, 0, n...))
	}
	for _, n := range [][]int64{{1, 0, 0, 1, 0, 0}, {0, 1, 1, 0, 0, 0}, {most, most - 1, most, most, 0, 0}, {most, -most, most, most, most, -most}, {65536, 0, 0, 65536, 0, 0}, {most, most - 1, most - 1, most - 2, 0, 0}} {
		checkSecond(t, true, command(2, 0, n...))
	}
}

func TestLengthsOfGood(t *testing.T) {
	for n := 3; n < 18; n += 2 {
		for _, o := range []int64{0, 1, most} {
			list := make([]int64, n)
			list[0] = o
			checkSecond(t, false, command(12, 0, list...))
			for i := 1; i < n; i++ {
				one := slices.Clone(list)
				one[i] = 1 + int64(i%2)*(most-1)
				checkSecond(t, true, command(12, 0, one...))
				one[i] = -1
				checkSecond(t, false, command(12, 0, one...))
				one[i], one[n-i] = most+1, 1
				checkSecond(t, i == n-i, command(12, 0, one...))
			}
		}
	}
}

// A path where none belongs, none where one belongs, one that is not good, and
// numbers beside a path.
func TestPathsOfGood(t *testing.T) {
	line, done := part(api.Line, 0, 3, 4), part(api.Close, 0)
	for _, c := range goodOnes()[:12] {
		c.Path = []api.Seg{move()}
		checkGood(t, false, canvas(), c)
		checkGood(t, false, c)
		c.Path = []api.Seg{{}}
		checkGood(t, false, canvas(), c)
		checkGood(t, false, c)
	}
	for kind := 13; kind < 16; kind++ {
		checkSecond(t, true, drawing(kind, 0, move(), line, done, line))
		checkSecond(t, true, drawing(kind, 0, append([]api.Seg{move()}, slices.Repeat([]api.Seg{line}, maxSegs-1)...)...))
		for _, l := range [][]api.Seg{nil, {}, {{}}, {line}, {done}, {move(), done, done}, {move(), {Kind: 7}}, {move(), {Kind: 2, W: 1}}, {move(), {Kind: 5}}, {part(1, 0, most+1)}, {part(1, 0, 1, 2, 3)}, slices.Repeat([]api.Seg{move()}, maxSegs+1)} {
			checkSecond(t, false, drawing(kind, 0, l...))
		}
		for _, n := range [][]int64{{0}, {1}, {1, 2}, {2, 3, 0, 0, 0}} {
			checkSecond(t, false, api.Cmd{Kind: kind, N: n, Path: []api.Seg{move()}})
			checkSecond(t, false, api.Cmd{Kind: kind, N: n})
		}
	}
}

// nil and empty lists are one; places are not looked at.
func TestEmptyListsAndPlacesOfGood(t *testing.T) {
	for i, c := range goodOnes() {
		l := []api.Cmd{canvas(), c}
		if i == 0 {
			l = l[1:]
		}
		want, _ := cmd.Text(l)
		if len(c.N) == 0 {
			c.N = []int64{}
		}
		if len(c.Path) == 0 {
			c.Path = []api.Seg{}
		}
		for _, at := range []int{0, 1, -1, 77, math.MaxInt, math.MinInt} {
			c.At, l[len(l)-1] = at, c
			l[0].At = at
			checkGood(t, true, l...)
			if s, _ := cmd.Text(l); s != want {
				t.Errorf("%q, not %q", s, want)
			}
		}
	}
}

func TestMaxCmdsOfGood(t *testing.T) {
	l := append([]api.Cmd{canvas()}, slices.Repeat([]api.Cmd{command(3, 0)}, 3*maxCmds)...)
	for n, want := range map[int]bool{1: true, 2: true, 4095: true, 4096: true, 4097: false, 4098: false, 8192: false, 12289: false} {
		checkGood(t, want, l[:n]...)
	}
	// the last one is looked at, too
	for _, bad := range []api.Cmd{{}, {Kind: 16}, canvas(), command(7, 0, 0), command(3, 0, 1), drawing(13, 0)} {
		checkGood(t, false, append(slices.Clone(l[:4095]), bad)...)
		checkGood(t, false, append(slices.Clone(l[:4096]), bad)...)
	}
}

func TestTextsOfFew(t *testing.T) {
	wants := strings.Split("canvas 2 3 0 0 0;matrix 1 0 0 1 0 0;push;pop;rule evenodd;color 1 2 3 4;tol 5;width 6;cap round;join miter;miter 99;dash 1 2 3;fill M 1 2;stroke M 1 2;clip M 1 2", ";")
	if s, e := cmd.Text(goodOnes()); s != strings.Join(wants, "\n")+"\n" || e != api.OK {
		t.Errorf("%q %v", s, e)
	}
	for want, c := range map[string]api.Cmd{
		"matrix -1 2 -3 4 -5 6":                  command(2, 0, -1, 2, -3, 4, -5, 6),
		"matrix 2147483647 0 0 -2147483647 -1 0": command(2, 0, most, 0, 0, -most, -1, 0),
		"rule nonzero":                           command(5, 0, 0),
		"rule evenodd":                           command(5, 0, 1),
		"cap butt":                               command(9, 0, 0),
		"cap square":                             command(9, 0, 1),
		"cap round":                              command(9, 0, 2),
		"join miter":                             command(10, 0, 0),
		"join bevel":                             command(10, 0, 1),
		"join round":                             command(10, 0, 2),
		"width -2147483647":                      command(8, 0, -most),
		"dash":                                   command(12, 0),
		"dash 0 0 1 2147483647 5":                command(12, 0, 0, 0, 1, most, 5),
		"fill M 0 0 L 64 0 Z":                    drawing(13, 0, part(1, 0), part(2, 0, 64, 0), part(6, 0)),
		"clip M 1 2 K 9 3 4 -5 6":                drawing(15, 0, move(), part(5, 9, 3, 4, -5, 6)),
	} {
		if s, e := cmd.Text([]api.Cmd{canvas(), c}); s != first+want+"\n" || e != api.OK {
			t.Errorf("%q, not %q: %v", s, want, e)
		}
	}
}
