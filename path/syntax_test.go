package path_test

import (
	"math"
	"slices"
	"strings"
	"testing"

	"gesso/api"
)

// P11.1: errors of syntax, and their places.

func word(at int, s string) api.Token { return api.Token{Kind: api.TkWord, S: s, At: at} }

func num(at int, n int64) api.Token { return api.Token{Kind: api.TkNum, N: n, At: at} }

func end(at int) api.Token { return api.Token{Kind: api.TkEnd, At: at} }

func TestSyntaxOfFew(t *testing.T) {
	for s, at := range map[string]int{
		"":                       0,
		"  ,":                    3,
		"L1 2":                   0,
		"l1 2":                   0,
		"H1":                     0,
		"v1":                     0,
		"Q1 1 1 1":               0,
		"c1 1 1 1 1 1":           0,
		"S1 1 1 1":               0,
		"t1 1":                   0,
		"K1 1 1 1 1":             0,
		"Z":                      0,
		" z M1 2":                1,
		"1 2":                    0,
		" -5":                    1,
		"\n":                     0,
		"\nM1 2":                 0,
		"M":                      1,
		"M ":                     2,
		"M1":                     2,
		"M1 ,":                   4,
		"m":                      1,
		"m1":                     2,
		"M\n":                    1,
		"M1\n2":                  2,
		"M1 2\n":                 4,
		"M1 2\nL3 4":             4,
		"M1 2L\n":                5,
		"M1 2Z\n":                5,
		"M1 2 3":                 6,
		"M1 2 3L":                6,
		"M1 L2 3":                3,
		"M1 2L":                  5,
		"M1 2L3":                 6,
		"M1 2L3 4 5":             10,
		"M1 2L3 4 5 6 7":         14,
		"M1 2L3M4 5":             6,
		"M1 2H":                  5,
		"M1 2HV":                 5,
		"M1 2H Z":                6,
		"M1 2H5 6Z7":             9,
		"M1 2Q1 2 3":             10,
		"M1 2Q1 2 3 4 5":         14,
		"M1 2Q1 2 3Z":            10,
		"M1 2C1 2 3 4 5":         14,
		"M1 2C1 2 3 4 5 6 7 8 9": 22,
		"M1 2C1 2 3 4 5c":        14,
		"M1 2S1 2 3":             10,
		"M1 2T1":                 6,
		"M1 2T1T1":               6,
		"M1 2K1 2 3 4":           12,
		"M1 2K1 2 3 4 5 6":       16,
		"M1 2K1 2 3 4k":          12,
		"M1 2Z3":                 5,
		"M1 2Z,-3":               6,
		"M1 2ZZ":                 5,
		"M1 2zz":                 5,
		"M1 2Zz":                 5,
		"M1 2 A1 1 1 1 1 1 1":    5,
		"M1 2 a1":                5,
		"M1 2B":                  4,
		"x":                      0,
		"move 1 2":               1,
		"M 1 2 fill":             6,
		"M1 2e5":                 4,
	} {
		check(t, s, syntax(at))
		agree(t, s)
	}
}

// Each letter of the alphabet, where a letter may stand, where a number lacks,
// and at the beginning.
func TestEachWordOfOneByte(t *testing.T) {
	for n := range 256 {
		s := string([]byte{byte(n)})
		for _, l := range [][]api.Token{
			{word(5, s)},
			{word(5, s), num(6, 1), num(7, 2)},
			{word(0, "M"), word(5, s)},
			{word(0, "M"), num(1, 1), word(5, s), num(6, 2)},
			{word(0, "M"), num(1, 1), num(2, 2), word(5, s)},
			{word(0, "M"), num(1, 1), num(2, 2), word(4, "Z"+s)},
			{word(0, "M"), num(1, 1), num(2, 2), word(4, "Z"), word(5, s), num(6, 1), num(7, 2), num(8, 3), num(9, 4), num(10, 5), num(11, 6)},
		} {
			checkTokens(t, l, 99, wanted(l, 99))
		}
		l := []api.Token{word(0, "M"), num(1, 1), num(2, 2), word(4, "Z"+s)}
		switch {
		case strings.Contains("MmLlHhVvQqCcSsTtKk", s):
			checkTokens(t, l, 99, syntax(99))
		default:
			checkTokens(t, l, 99, syntax(5))
		}
	}
}

// What lacks at the end is at the place at, whatever that is.
func TestPlacesOfWhatLacks(t *testing.T) {
	for _, at := range []int{0, 1, -1, 7, 1000000, math.MaxInt, math.MinInt} {
		checkTokens(t, nil, at, syntax(at))
		checkTokens(t, []api.Token{}, at, syntax(at))
		for _, s := range []string{"M", "m", "M1", "M1 2 3", "M1 2L", "M1 2L3", "M1 2h", "M1 2v", "M1 2q1 1 1", "M1 2c1 1", "M1 2S", "M1 2t1", "M1 2K1", "M1 2ZL", "M9999999999 0L"} {
			checkTokens(t, cut(s), at, syntax(at))
		}
		checkTokens(t, cut("M1 2L3 4"), at, parts(move(1, 2), line(3, 4)))
		checkTokens(t, cut("M1 2Z"), at, parts(move(1, 2), done()))
		checkTokens(t, cut("M1 2Z3"), at, syntax(5))
		checkTokens(t, cut("M1 2h9999999999"), at, outside(5))
	}
}

// Places are those of the tokens, in whatever order they are.
func TestPlacesOfTokens(t *testing.T) {
	for _, at := range []int{0, 1, -1, -500, 12345, math.MaxInt - 1, math.MinInt} {
		checkTokens(t, []api.Token{num(at, 5)}, 9, syntax(at))
		checkTokens(t, []api.Token{end(at)}, 9, syntax(at))
		checkTokens(t, []api.Token{word(at, "")}, 9, syntax(at))
		checkTokens(t, []api.Token{word(at, "X")}, 9, syntax(at))
		checkTokens(t, []api.Token{word(at, "MX")}, 9, syntax(at+1))
		checkTokens(t, []api.Token{word(at, "M"), num(30, 1), num(20, 2), num(at, 1<<31), num(3, 1<<31)}, 9, outside(at))
		checkTokens(t, []api.Token{word(5, "M"), num(5, 1), num(5, 2), word(5, "L"), num(5, 0), word(at, "Z")}, 9, syntax(at))
		checkTokens(t, []api.Token{word(5, "M"), num(5, 1), num(5, 2), word(5, "h"), num(at, most)}, 9, outside(at))
	}
	// a word further on than an int can tell
	checkTokens(t, []api.Token{word(math.MaxInt, "MX")}, 9, syntax(math.MinInt))
}

// What is no word of letters and no number stands nowhere.
func TestTokensThatStandNowhere(t *testing.T) {
	var odd []api.Token
	for _, k := range []int{0, -1, 3, 4, 5, 6, math.MaxInt, math.MinInt, 258, -254} {
		odd = append(odd, api.Token{Kind: k, At: 77}, api.Token{Kind: k, S: "M", N: 5, At: 77})
	}
	odd = append(odd, word(77, ""), api.Token{Kind: 1, N: 5, At: 77}, word(77, "5"), word(77, " "), word(77, "-"), word(77, "\n"), word(77, "\x00"), word(77, "\xff"), word(77, "é"), word(77, "#"))
	for _, s := range []string{"", "M", "M1", "M1 2", "M1 2 3", "M1 2L", "M1 2L3", "M1 2L3 4", "M1 2Z", "M1 2q1 1 1"} {
		for _, x := range odd {
			for _, behind := range []string{"", "M1 2", "5", "L"} {
				l := slices.Concat(cut(s), []api.Token{x}, cut(behind))
				checkTokens(t, l, 9, syntax(77))
			}
		}
	}
	for _, s := range []string{"M ", "M5", "M\n", "M\x00", "M\xff", "Mé", "M\u0661"} {
		checkTokens(t, []api.Token{word(70, s), num(72, 1), num(73, 2)}, 9, syntax(71))
	}
	checkTokens(t, []api.Token{word(0, "M"), num(1, 1), num(2, 2), word(70, "Z\xffL"), num(72, 1), num(73, 2)}, 9, syntax(71))
}

// Of a word the letters alone count, of a number the number.
func TestFieldsThatDoNotCount(t *testing.T) {
	l := []api.Token{{Kind: 1, S: "M", N: 9}, {Kind: 2, S: "L", N: 1}, {Kind: 2, S: "", N: 2}, {Kind: 1, S: "h", N: -1 << 63}, {Kind: 2, S: "\xff", N: 3}, {Kind: 1, S: "z", N: 1}}
	checkTokens(t, l, 9, parts(move(1, 2), line(4, 2), done()))
}

// All short lists of tokens.
func TestAllShortLists(t *testing.T) {
	texts := []string{"M", "l", "H", "T", "Z", "z", "ZL", "X", "5", "-6", "\n"}
	count := 0
	var grow func(l []api.Token, n int)
	grow = func(l []api.Token, n int) {
		count++
		checkTokens(t, l, 999, wanted(l, 999))
		if n == 0 {
			return
		}
		for _, s := range texts {
			x := cut(s)[0]
			x.At = 10 * len(l)
			grow(append(slices.Clip(l), x), n-1)
		}
	}
	grow(nil, 4)
	texts = []string{"m", "h", "Z", "5"}
	grow(nil, 7)
	texts = []string{"C", "K", "3"}
	grow(cut("M1 1"), 8)
	if count < 40000 {
		t.Error(count)
	}
}

// Longer lists, of which most have a fault somewhere.
func TestRandomLists(t *testing.T) {
	d := dice(7)
	letters := []string{"M", "m", "L", "l", "H", "h", "V", "v", "Q", "q", "C", "c", "S", "s", "T", "t", "K", "k", "Z", "z", "Zm", "zL"}
	for range 20000 {
		s := "M1 2"
		for range d.throw(12) {
			s += letters[d.throw(len(letters))]
			for range []int{0, 1, 2, 2, 4, 4, 5, 6}[d.throw(8)] {
				s += " " + text(d.throw(200)+1)
			}
		}
		agree(t, s)
		// one token more, one fewer
		l := cut(s)
		i := d.throw(len(l))
		less := slices.Delete(slices.Clone(l), i, i+1)
		checkTokens(t, less, 7, wanted(less, 7))
		more := slices.Insert(slices.Clone(l), i, []api.Token{word(5000, "Z"), word(5000, "T"), num(5000, 5), end(5000), word(5000, "b")}[d.throw(5)])
		checkTokens(t, more, 7, wanted(more, 7))
	}
}

// Syntax goes ahead of the other errors, wherever its fault stands.
func TestSyntaxGoesAhead(t *testing.T) {
	for s, at := range map[string]int{
		"M9999999999 0L":                        14,
		"M9999999999 0X":                        13,
		"M9999999999 0 1":                       15,
		"M0 0K0 1 1 1 1ZZ":                      15,
		"M0 0K4097 1 1 1 1Z5":                   18,
		"M0 0h2147483648\n":                     15,
		"M0 0Q-2147483647 0 2147483647 0T5 5Z1": 36,
		"M2147483648":                           11,
		"M2147483648L":                          11,
	} {
		check(t, s, syntax(at))
		agree(t, s)
	}
	many := "M0 0" + strings.Repeat("h1", 4095)
	for _, s := range []string{"h1X", "h1h", "h1ZZ", "h1Z1", "h1\n", " 1X", " 1h", "zM1", "h9999999999X", "L1", "ZL1 1 1", "h1h1h1h1h1h1h1h1h1h1h1q"} {
		for _, more := range []string{"", strings.Repeat("v5", 9000)} {
			got := parse(cut(many+more+s), 77)
			if got.e != api.ErrSyntax || len(got.list) != 0 || got.at != 77 && got.at < len(many+more) {
				t.Error(s, got.text())
			}
		}
	}
	check(t, many+"h1X", syntax(len(many)+2))
	check(t, many+strings.Repeat("v5", 9000)+"X", syntax(len(many)+18000))
}
