package path_test

import (
	"math"
	"slices"
	"strings"
	"testing"

	"gesso/api"
)

// P11.1: coordinates and weights that are out of range, and their places.

func TestRangeOfFew(t *testing.T) {
	for s, want := range map[string]answer{
		"M2147483647 -2147483647":             parts(move(most, -most)),
		"M-2147483647 2147483647":             parts(move(-most, most)),
		"M2147483648 0":                       outside(1),
		"M-2147483648 0":                      outside(1),
		"M0 2147483648":                       outside(3),
		"M0 -2147483648":                      outside(3),
		"m2147483647 -2147483647":             parts(move(most, -most)),
		"m2147483648 0":                       outside(1),
		"m0 -2147483648":                      outside(3),
		"M2147483648 2147483648":              outside(1),
		"M0 0 1 2147483648":                   outside(7),
		"m1 1 2147483646 0":                   parts(move(1, 1), line(most, 1)),
		"m1 1 2147483647 0":                   outside(5),
		"m1 -1 0 -2147483646":                 parts(move(1, -1), line(1, -most)),
		"m1 -1 0 -2147483647":                 outside(8),
		"M2147483647 0l0 0 1 0":               outside(18),
		"M2147483647 0h0":                     parts(move(most, 0), line(most, 0)),
		"M2147483647 0h1":                     outside(14),
		"M2147483647 0h-4294967294":           parts(move(most, 0), line(-most, 0)),
		"M2147483647 0h-4294967295":           outside(14),
		"M0 -2147483647v-1":                   outside(15),
		"M0 -2147483647v4294967294":           parts(move(0, -most), line(0, most)),
		"M0 -2147483647v4294967295":           outside(15),
		"M0 0H2147483647":                     parts(move(0, 0), line(most, 0)),
		"M0 0H2147483648":                     outside(5),
		"M0 0V-2147483647":                    parts(move(0, 0), line(0, -most)),
		"M0 0V1 2 -2147483648 9":              outside(9),
		"M0 0V-2147483648":                    outside(5),
		"M5 5H-2147483648":                    outside(5),
		"M0 0Q9999999999 0 0 0":               outside(5),
		"M0 0Q0 9999999999 0 0":               outside(7),
		"M0 0Q0 0 9999999999 0":               outside(9),
		"M0 0Q0 0 0 9999999999":               outside(11),
		"M0 0C0 0 0 9999999999 0 0":           outside(11),
		"M0 0S0 0 0 -9999999999":              outside(11),
		"M0 0T0 -9999999999":                  outside(7),
		"M0 0K1 0 0 0 2147483648":             outside(13),
		"M0 0K1 2147483648 0 0 9999999999":    outside(7),
		"M0 0L2147483648 0zX":                 syntax(18),
		"M1 1L9 9Zl2147483646 0":              parts(move(1, 1), line(9, 9), done(), line(most, 1)),
		"M1 1L9 9Zl2147483647 0":              outside(10),
		"M-1 0l2147483647 0 1 0 1 0":          outside(23),
		"M0 2147483647L0 0ZT0 2147483647t0 1": outside(34),
	} {
		check(t, s, want)
		agree(t, s)
	}
}

// Each number of each letter, at the bounds and one beyond them, where the
// path stands here and there.
func TestEachNumberAtTheBounds(t *testing.T) {
	needs := map[string]int{"M": 2, "L": 2, "H": 1, "V": 1, "Q": 4, "C": 6, "S": 4, "T": 2, "K": 5}
	values := []string{"2147483646", "2147483647", "2147483648", "-2147483646", "-2147483647", "-2147483648", "4294967294", "4294967295", "-4294967294", "-4294967295", "9223372036854775807", "-9223372036854775807", "4096", "4097", "0", "-1"}
	for name, n := range needs {
		for _, c := range []string{name, strings.ToLower(name)} {
			for _, from := range []string{"0 0", "1 -1", "2147483647 -2147483647", "-2147483647 2147483647", "-2147483646 2147483645"} {
				for i := range n {
					for _, v := range values {
						for _, second := range []string{"", " 9999999999"} {
							l := slices.Repeat([]string{"3"}, n)
							l[i] = v
							if second != "" && i+1 < n {
								l[i+1] = second[1:]
							}
							s := "M" + from + c + strings.Join(l, " ")
							agree(t, s)
							agree(t, s+" "+strings.Join(l, " "))
							agree(t, s+"z"+c+strings.Join(l, " "))
						}
					}
				}
			}
		}
	}
}

// Numbers that wrap round in a sum, or look small by some of their bits.
func TestVeryGreatNumbers(t *testing.T) {
	for _, n := range []int64{math.MaxInt64, math.MinInt64, math.MinInt64 + 1, math.MaxInt64 - most, math.MinInt64 + most, 1 << 62, -1 << 62, 1 << 32, -1 << 32, 1<<32 + 1, 1 << 33, -1 << 33, 1 << 34, 1<<34 + 1, 1 << 40, 1<<63 - 1<<31, -1<<63 + 1<<31} {
		for _, from := range []int64{0, 1, -1, most, -most, 1000} {
			for _, c := range []string{"M", "m", "L", "l", "H", "h", "V", "v"} {
				two := []api.Token{num(6, n)}
				if !strings.Contains("HhVv", c) {
					two = append(two, num(7, 0))
				}
				l := slices.Concat([]api.Token{word(0, "M"), num(1, from), num(2, from), word(5, c)}, two)
				want := wanted(l, 9)
				checkTokens(t, l, 9, want)
				if n > 1<<33 || n < -1<<33 {
					checkTokens(t, l, 9, outside(6))
				}
			}
			for _, c := range []string{"K", "k"} {
				l := []api.Token{word(0, "M"), num(1, 0), num(2, 0), word(5, c), num(6, n), num(7, 0), num(8, 0), num(9, 0), num(10, n)}
				checkTokens(t, l, 9, outside(6))
				l[4].N = 1
				checkTokens(t, l, 9, outside(10))
			}
		}
	}
}

func TestWeights(t *testing.T) {
	for s, want := range map[string]answer{
		"M0 0K1 1 2 3 4":              parts(move(0, 0), conic(1, 1, 2, 3, 4)),
		"M0 0K4096 1 2 3 4":           parts(move(0, 0), conic(4096, 1, 2, 3, 4)),
		"M0 0k1 1 2 3 4":              parts(move(0, 0), conic(1, 1, 2, 3, 4)),
		"M0 0k4096 1 2 3 4":           parts(move(0, 0), conic(4096, 1, 2, 3, 4)),
		"M9 9k4096 1 2 3 4":           parts(move(9, 9), conic(4096, 10, 11, 12, 13)),
		"M-9-9k1 1 2 3 4":             parts(move(-9, -9), conic(1, -8, -7, -6, -5)),
		"M0 0K0 1 2 3 4":              outside(5),
		"M0 0K4097 1 2 3 4":           outside(5),
		"M9 9k0 1 2 3 4":              outside(5),
		"M9 9k4097 1 2 3 4":           outside(5),
		"M-9-9k4097 1 2 3 4":          outside(6),
		"M0 0K-1 1 2 3 4":             outside(5),
		"M0 0K-64 1 2 3 4":            outside(5),
		"M0 0K-5 9999999999 2 3 4":    outside(5),
		"M0 0K5 9999999999 2 3 4":     outside(7),
		"M0 0K5 1 2 3 4 0 1 2 3 4":    outside(15),
		"M0 0K5 1 2 3 4 4097 1 2 3 4": outside(15),
		"M0 0K5 1 2 3 4 6 1 2 3 4":    parts(move(0, 0), conic(5, 1, 2, 3, 4), conic(6, 1, 2, 3, 4)),
		"M0 0K2147483647 1 2 3 4":     outside(5),
		"M0 0K4294967297 1 2 3 4":     outside(5),
		"M0 0K9999999999999 1 2 3 4":  outside(5),
	} {
		check(t, s, want)
	}
	for w := int64(-100); w < 4300; w++ {
		want := outside(5)
		if w > 0 && w < 4097 {
			want = parts(move(0, 0), conic(w, 1, 2, 3, 4))
		}
		checkTokens(t, []api.Token{word(0, "M"), num(1, 0), num(2, 0), word(3, "K"), num(5, w), num(6, 1), num(7, 2), num(8, 3), num(9, 4)}, 0, want)
	}
}

// A mirrored coordinate that is not below goes ahead of the part's numbers.
func TestMirroredOutOfRange(t *testing.T) {
	for s, want := range map[string]answer{
		"M0 0Q-2147483647 0 2147483647 0T5 5":                   outside(31),
		"M0 0Q-2147483647 0 2147483647 0T9999999999 5":          outside(31),
		"M0 0Q-2147483647 0 2147483647 0 , t 5 5":               outside(34),
		"M0 0Q1 0 1073741824 0T5 5":                             parts(move(0, 0), quad(1, 0, 1<<30, 0), quad(most, 0, 5, 5)),
		"M0 0Q0 0 1073741824 0T5 5":                             outside(21),
		"M0 0Q0 1 0 1073741824T5 5":                             parts(move(0, 0), quad(0, 1, 0, 1<<30), quad(0, most, 5, 5)),
		"M0 0Q0 0 0 1073741824T5 5":                             outside(21),
		"M0 0Q-1 0 -1073741824 0T5 5":                           parts(move(0, 0), quad(-1, 0, -1<<30, 0), quad(-most, 0, 5, 5)),
		"M0 0Q0 0 -1073741824 0T5 5":                            outside(22),
		"M0 0Q0 -1 0 -1073741824T5 5":                           parts(move(0, 0), quad(0, -1, 0, -1<<30), quad(0, -most, 5, 5)),
		"M0 0Q0 0 0 -1073741824T5 5":                            outside(22),
		"M0 0T1073741824 0T5 5":                                 outside(17),
		"M0 0T1073741824 0 5 5":                                 outside(18),
		"M0 0t1073741824 0 5 5":                                 outside(18),
		"M0 0t1073741824 0,, 9999999999 5":                      outside(20),
		"M1 0t1073741823 0 5 5":                                 parts(move(1, 0), quad(1, 0, 1<<30, 0), quad(most, 0, 1<<30+5, 5)),
		"M0 0C0 0 0 2 0 2147483647 0 0 0 0 0 0S0 0 0 0":         parts(move(0, 0), cubic(0, 0, 0, 2, 0, most), cubic(0, 0, 0, 0, 0, 0), cubic(0, 0, 0, 0, 0, 0)),
		"M0 0C0 0 0 2 0 2147483647S0 0 0 0":                     outside(25),
		"M0 0C0 0 0 2147483647 0 2147483647S0 0 0 0":            parts(move(0, 0), cubic(0, 0, 0, most, 0, most), cubic(0, most, 0, 0, 0, 0)),
		"M0 0C0 0 1 0 1073741824 0S0 0 9999999999 0":            outside(30),
		"M0 0C0 0 0 0 1073741824 0S0 0 9999999999 0":            outside(25),
		"M0 0S0 0 1073741824 0S1 1 1 1":                         outside(21),
		"M0 0S0 0 1073741824 0 1 1 1 1":                         outside(22),
		"M0 0s0 0 0 1073741824 1 1 1 1":                         outside(22),
		"M0 0S0 0 1073741824 0L1073741824 0S1 1 1 1":            parts(move(0, 0), cubic(0, 0, 0, 0, 1<<30, 0), line(1<<30, 0), cubic(1<<30, 0, 1, 1, 1, 1)),
		"M0 0S0 0 1073741824 0T1 1":                             parts(move(0, 0), cubic(0, 0, 0, 0, 1<<30, 0), quad(1<<30, 0, 1, 1)),
		"M0 0T1073741824 0S1 1 1 1":                             parts(move(0, 0), quad(0, 0, 1<<30, 0), cubic(1<<30, 0, 1, 1, 1, 1)),
		"M2147483647 0Q-2147483647 0 2147483647 0zT1 1":         parts(move(most, 0), quad(-most, 0, most, 0), done(), quad(most, 0, 1, 1)),
		"M2147483647 2147483647T0 0T0 0T0 0":                    parts(move(most, most), quad(most, most, 0, 0), quad(-most, -most, 0, 0), quad(most, most, 0, 0)),
		"M-2147483647 2147483647S0 0 0 0S0 0 0 0 0 0 0 0S1 1 1": syntax(53),
	} {
		check(t, s, want)
		agree(t, s)
	}
}

// Part by part: an earlier part's error goes ahead of a later one's.
func TestFirstOfSeveralRanges(t *testing.T) {
	faults := []string{"L2147483648 0", "H-2147483648", "K0 1 1 1 1", "K1 1 1 1 2147483648", "V1 2 99999999999", "M0 9999999999", "h4294967296"}
	for _, a := range faults {
		for _, b := range faults {
			s := "M1 1" + a + b + "z" + a
			want := agree(t, s)
			if first := agree(t, "M1 1"+a); !want.equal(first) || first.e != api.ErrRange {
				t.Error(s, want.text(), first.text())
			}
		}
	}
}

// Paths of great numbers, of which most leave the range somewhere.
func TestRandomRanges(t *testing.T) {
	d := dice(3)
	count := 0
	for range 20000 {
		want := agree(t, longPath(&d, 1+d.throw(12), 1<<(24+d.throw(9))))
		if want.e == api.ErrRange {
			count++
		}
	}
	if count < 5000 || count > 15000 {
		t.Error(count)
	}
}
