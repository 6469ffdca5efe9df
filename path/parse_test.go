package path_test

import (
	"strings"
	"testing"

	"gesso/api"
)

// P11.1: which parts tokens are.

func TestPathsOfFew(t *testing.T) {
	for s, want := range map[string]answer{
		"M0 0l64 0z":                      parts(move(0, 0), line(64, 0), done()),
		"M1 2":                            parts(move(1, 2)),
		"m1 2":                            parts(move(1, 2)),
		"m-1-2":                           parts(move(-1, -2)),
		"M1 2M3 4":                        parts(move(1, 2), move(3, 4)),
		"m1 2m3 4":                        parts(move(1, 2), move(4, 6)),
		"M1 2L3 4":                        parts(move(1, 2), line(3, 4)),
		"M1 2l3 4":                        parts(move(1, 2), line(4, 6)),
		"M1 2H9":                          parts(move(1, 2), line(9, 2)),
		"M1 2h9":                          parts(move(1, 2), line(10, 2)),
		"M1 2V9":                          parts(move(1, 2), line(1, 9)),
		"M1 2v9":                          parts(move(1, 2), line(1, 11)),
		"M1 2H-9v-5h2V0":                  parts(move(1, 2), line(-9, 2), line(-9, -3), line(-7, -3), line(-7, 0)),
		"M1 2Q3 4 5 6":                    parts(move(1, 2), quad(3, 4, 5, 6)),
		"M1 2q3 4 5 6":                    parts(move(1, 2), quad(4, 6, 6, 8)),
		"M1 2C3 4 5 6 7 8":                parts(move(1, 2), cubic(3, 4, 5, 6, 7, 8)),
		"M1 2c3 4 5 6 7 8":                parts(move(1, 2), cubic(4, 6, 6, 8, 8, 10)),
		"M1 2S5 6 7 8":                    parts(move(1, 2), cubic(1, 2, 5, 6, 7, 8)),
		"M1 2s5 6 7 8":                    parts(move(1, 2), cubic(1, 2, 6, 8, 8, 10)),
		"M1 2T5 6":                        parts(move(1, 2), quad(1, 2, 5, 6)),
		"M1 2t5 6":                        parts(move(1, 2), quad(1, 2, 6, 8)),
		"M1 2K64 3 4 5 6":                 parts(move(1, 2), conic(64, 3, 4, 5, 6)),
		"M1 2k64 3 4 5 6":                 parts(move(1, 2), conic(64, 4, 6, 6, 8)),
		"M1 2Z":                           parts(move(1, 2), done()),
		"M1 2z":                           parts(move(1, 2), done()),
		"M 0,0 , L 1 , 1":                 parts(move(0, 0), line(1, 1)),
		"M-0 00L007-007":                  parts(move(0, 0), line(7, -7)),
		"M5 6l0 0":                        parts(move(5, 6), line(5, 6)),
		"M5 6m0 0":                        parts(move(5, 6), move(5, 6)),
		"M5 6q0 0 0 0c0 0 0 0 0 0":        parts(move(5, 6), quad(5, 6, 5, 6), cubic(5, 6, 5, 6, 5, 6)),
		"M5 6k1 0 0 0 0":                  parts(move(5, 6), conic(1, 5, 6, 5, 6)),
		"M0 0C0 0 0 0 0 0Q0 0 0 0L0 0M00": syntax(31),
	} {
		check(t, s, want)
	}
}

// Behind M further numbers are of L, behind m of l.
func TestFurtherNumbersOfMove(t *testing.T) {
	for s, want := range map[string]answer{
		"M5 6 7 8":           parts(move(5, 6), line(7, 8)),
		"M5 6 7 8 -1 -2":     parts(move(5, 6), line(7, 8), line(-1, -2)),
		"m5 6 7 8":           parts(move(5, 6), line(12, 14)),
		"m5 6 7 8 -1 -2":     parts(move(5, 6), line(12, 14), line(11, 12)),
		"M1 1m5 6 7 8":       parts(move(1, 1), move(6, 7), line(13, 15)),
		"m1 1M5 6 7 8":       parts(move(1, 1), move(5, 6), line(7, 8)),
		"M1 1 2 2Z9 9":       syntax(9),
		"M1 1 2 2ZL9 9":      parts(move(1, 1), line(2, 2), done(), line(9, 9)),
		"m1 1 2 2zl9 9":      parts(move(1, 1), line(3, 3), done(), line(10, 10)),
		"m1 1 2 2 3 3zm1 1":  parts(move(1, 1), line(3, 3), line(6, 6), done(), move(2, 2)),
		"M5 6 7 8Zh1":        parts(move(5, 6), line(7, 8), done(), line(6, 6)),
		"m5 6 7 8 7 8 7 8 7": syntax(18),
	} {
		check(t, s, want)
	}
}

// Each letter, great and small, with its numbers once, twice, thrice and more,
// and all counts between: what does not come out even is a fault at the end.
func TestEachLetterWithSoManyNumbers(t *testing.T) {
	numbers := []string{"1", "-2", "30", "4", "-500", "6", "7", "0", "9", "64", "11", "-12", "13", "2000", "15", "16", "17", "18", "-19", "20", "21", "22"}
	needs := map[string]int{"M": 2, "L": 2, "H": 1, "V": 1, "Q": 4, "C": 6, "S": 4, "T": 2, "K": 5, "Z": 0}
	for name, n := range needs {
		for _, c := range []string{name, strings.ToLower(name)} {
			for count := range len(numbers) {
				s := "M3-4" + c
				for i := range count {
					x := numbers[i]
					if name == "K" && i%5 == 0 {
						x = strings.TrimPrefix(x, "-")
					}
					s += " " + x
				}
				want := agree(t, s)
				switch {
				case n == 0 && count > 0:
					check(t, s, syntax(6))
				case n > 0 && (count == 0 || count%n > 0):
					check(t, s, syntax(len(s)))
				case n > 0 && len(want.list) != 1+count/n || n == 0 && len(want.list) != 2:
					t.Error(s, want.text())
				}
				agree(t, s+"L")
				agree(t, s+"L 1")
				agree(t, s+"L 1 1")
				agree(t, s+"zM1 1")
			}
		}
	}
}

// S and T have the point mirrored of what is right ahead of them alone.
func TestMirroredPoints(t *testing.T) {
	for s, want := range map[string]answer{
		"M0 0C1 2 3 4 10 20S5 6 7 8":              parts(move(0, 0), cubic(1, 2, 3, 4, 10, 20), cubic(17, 36, 5, 6, 7, 8)),
		"M0 0C1 2 3 4 10 20s5 6 7 8":              parts(move(0, 0), cubic(1, 2, 3, 4, 10, 20), cubic(17, 36, 15, 26, 17, 28)),
		"M9 9c1 2 3 4 10 20s5 6 7 8":              parts(move(9, 9), cubic(10, 11, 12, 13, 19, 29), cubic(26, 45, 24, 35, 26, 37)),
		"M0 0S3 4 10 20S5 6 7 8":                  parts(move(0, 0), cubic(0, 0, 3, 4, 10, 20), cubic(17, 36, 5, 6, 7, 8)),
		"M0 0S3 4 10 20 5 6 7 8":                  parts(move(0, 0), cubic(0, 0, 3, 4, 10, 20), cubic(17, 36, 5, 6, 7, 8)),
		"M0 0s3 4 10 20 5 6 7 8":                  parts(move(0, 0), cubic(0, 0, 3, 4, 10, 20), cubic(17, 36, 15, 26, 17, 28)),
		"M1 2S3 4 5 6":                            parts(move(1, 2), cubic(1, 2, 3, 4, 5, 6)),
		"M1 2L9 8S3 4 5 6":                        parts(move(1, 2), line(9, 8), cubic(9, 8, 3, 4, 5, 6)),
		"M1 2Q9 8 7 6S3 4 5 6":                    parts(move(1, 2), quad(9, 8, 7, 6), cubic(7, 6, 3, 4, 5, 6)),
		"M1 2T7 6S3 4 5 6":                        parts(move(1, 2), quad(1, 2, 7, 6), cubic(7, 6, 3, 4, 5, 6)),
		"M1 2K9 9 8 7 6S3 4 5 6":                  parts(move(1, 2), conic(9, 9, 8, 7, 6), cubic(7, 6, 3, 4, 5, 6)),
		"M1 2C0 0 9 9 8 8ZS3 4 5 6":               parts(move(1, 2), cubic(0, 0, 9, 9, 8, 8), done(), cubic(1, 2, 3, 4, 5, 6)),
		"M1 2C0 0 9 9 8 8M8 8S3 4 5 6":            parts(move(1, 2), cubic(0, 0, 9, 9, 8, 8), move(8, 8), cubic(8, 8, 3, 4, 5, 6)),
		"M1 2C0 0 9 9 8 8L8 8S3 4 5 6":            parts(move(1, 2), cubic(0, 0, 9, 9, 8, 8), line(8, 8), cubic(8, 8, 3, 4, 5, 6)),
		"M1 2C0 0 9 9 8 8h0S3 4 5 6":              parts(move(1, 2), cubic(0, 0, 9, 9, 8, 8), line(8, 8), cubic(8, 8, 3, 4, 5, 6)),
		"M0 0Q3 4 10 20T5 6":                      parts(move(0, 0), quad(3, 4, 10, 20), quad(17, 36, 5, 6)),
		"M0 0Q3 4 10 20t5 6":                      parts(move(0, 0), quad(3, 4, 10, 20), quad(17, 36, 15, 26)),
		"M9 9q3 4 10 20t5 6":                      parts(move(9, 9), quad(12, 13, 19, 29), quad(26, 45, 24, 35)),
		"M0 0Q3 4 10 20T5 6T1 1":                  parts(move(0, 0), quad(3, 4, 10, 20), quad(17, 36, 5, 6), quad(-7, -24, 1, 1)),
		"M0 0Q3 4 10 20T5 6 1 1":                  parts(move(0, 0), quad(3, 4, 10, 20), quad(17, 36, 5, 6), quad(-7, -24, 1, 1)),
		"M1 2T3 4T5 6":                            parts(move(1, 2), quad(1, 2, 3, 4), quad(5, 6, 5, 6)),
		"M1 2t3 4 5 6":                            parts(move(1, 2), quad(1, 2, 4, 6), quad(7, 10, 9, 12)),
		"M1 2T3 4":                                parts(move(1, 2), quad(1, 2, 3, 4)),
		"M1 2L9 8T3 4":                            parts(move(1, 2), line(9, 8), quad(9, 8, 3, 4)),
		"M1 2C9 8 7 6 5 4T3 4":                    parts(move(1, 2), cubic(9, 8, 7, 6, 5, 4), quad(5, 4, 3, 4)),
		"M1 2S7 6 5 4T3 4":                        parts(move(1, 2), cubic(1, 2, 7, 6, 5, 4), quad(5, 4, 3, 4)),
		"M1 2K9 9 8 7 6T3 4":                      parts(move(1, 2), conic(9, 9, 8, 7, 6), quad(7, 6, 3, 4)),
		"M1 2Q9 9 8 8ZT3 4":                       parts(move(1, 2), quad(9, 9, 8, 8), done(), quad(1, 2, 3, 4)),
		"M1 2Q9 9 8 8M8 8T3 4":                    parts(move(1, 2), quad(9, 9, 8, 8), move(8, 8), quad(8, 8, 3, 4)),
		"M1 2Q9 9 8 8v0T3 4":                      parts(move(1, 2), quad(9, 9, 8, 8), line(8, 8), quad(8, 8, 3, 4)),
		"M0 0Q1 1 2 0C9 9 8 8 7 7T0 5S1 1 2 2T44": syntax(39),
	} {
		check(t, s, want)
	}
}

// Behind Z the path stands at the last M's point, M or none between.
func TestWhatFollowsClose(t *testing.T) {
	for s, want := range map[string]answer{
		"M1 2L3 4ZL5 6":                parts(move(1, 2), line(3, 4), done(), line(5, 6)),
		"M1 2L3 4zl5 6":                parts(move(1, 2), line(3, 4), done(), line(6, 8)),
		"M1 2L3 4ZH9":                  parts(move(1, 2), line(3, 4), done(), line(9, 2)),
		"M1 2L3 4ZV9":                  parts(move(1, 2), line(3, 4), done(), line(1, 9)),
		"M1 2L3 4Zq1 1 2 2":            parts(move(1, 2), line(3, 4), done(), quad(2, 3, 3, 4)),
		"M1 2L3 4Zc1 1 2 2 3 3":        parts(move(1, 2), line(3, 4), done(), cubic(2, 3, 3, 4, 4, 5)),
		"M1 2L3 4Zk5 1 1 2 2":          parts(move(1, 2), line(3, 4), done(), conic(5, 2, 3, 3, 4)),
		"M1 2L3 4Zm5 6":                parts(move(1, 2), line(3, 4), done(), move(6, 8)),
		"M1 2L3 4ZM5 6l1 1zl2 2":       parts(move(1, 2), line(3, 4), done(), move(5, 6), line(6, 7), done(), line(7, 8)),
		"M1 2L3 4zl1 1zl1 1zl1 1":      parts(move(1, 2), line(3, 4), done(), line(2, 3), done(), line(2, 3), done(), line(2, 3)),
		"M1 2M5 6L9 9Zl1 0":            parts(move(1, 2), move(5, 6), line(9, 9), done(), line(6, 6)),
		"M1 2m5 6 1 1zm1 1zm1 1":       parts(move(1, 2), move(6, 8), line(7, 9), done(), move(7, 9), done(), move(8, 10)),
		"M1 2 3 4Zl1 1":                parts(move(1, 2), line(3, 4), done(), line(2, 3)),
		"M1 2zM3 4":                    parts(move(1, 2), done(), move(3, 4)),
		"M1 2zL3 4Z":                   parts(move(1, 2), done(), line(3, 4), done()),
		"M1 2Z Z":                      syntax(6),
		"M1 2Z,z":                      syntax(6),
		"M1 2zL3 4zz":                  syntax(10),
		"M1 2ZM3 4Z" + "L9 9Z" + "ZL1": syntax(15),
	} {
		check(t, s, want)
	}
}

// Words of several letters: all but the last one need no numbers.
func TestWordsOfSeveralLetters(t *testing.T) {
	for s, want := range map[string]answer{
		"M1 2ZL5 6":        parts(move(1, 2), done(), line(5, 6)),
		"M1 2zm5 6":        parts(move(1, 2), done(), move(6, 8)),
		"M1 2ZK9 5 6 7 8":  parts(move(1, 2), done(), conic(9, 5, 6, 7, 8)),
		"M1 2 L5 6ZL7 8zh": syntax(16),
		"ML1 2":            syntax(1),
		"MM1 2":            syntax(1),
		"MZ":               syntax(1),
		"  MoveTo1 2":      syntax(3),
		"XM1 2":            syntax(0),
		"LM1 2":            syntax(0),
		"ZM1 2":            syntax(0),
		"M1 2ZZ":           syntax(5),
		"M1 2ZZZ":          syntax(5),
		"M1 2 ZLZ5 6":      syntax(7),
		"M1 2ZXL5 6":       syntax(5),
		"M1 2Zx":           syntax(5),
		"M1 2ZLX":          syntax(6),
		"M1 2HV5":          syntax(5),
		"M1 2XYZ":          syntax(4),
		"M1 2ZLm5 6":       syntax(6),
		"M1 2ZLzM5 6":      syntax(6),
	} {
		check(t, s, want)
		checkTokens(t, cut(s), -7, wanted(cut(s), -7))
	}
	long := strings.Repeat("Z", 300000)
	check(t, "M1 2"+long, syntax(5))
	check(t, long, syntax(0))
	check(t, strings.Repeat("M", 300000), syntax(1))
}

// Long paths of all letters, as the other implementation draws them.
func TestLongPaths(t *testing.T) {
	d := dice(1)
	for range 3000 {
		agree(t, longPath(&d, 30, 100))
	}
	for range 300 {
		agree(t, longPath(&d, 300, 1000000))
	}
}

// longPath is a path without a fault, but for coordinates that may get too
// great.
func longPath(d *dice, n, size int) string {
	needs := []int{2, 2, 1, 1, 4, 6, 4, 2, 5}
	var b strings.Builder
	b.WriteString("mM"[d.throw(2):][:1] + randomNumbers(d, 2, size))
	closed := false
	for range n {
		i := d.throw(10)
		if i == 9 {
			if !closed {
				b.WriteString("zZ"[d.throw(2):][:1])
			}
			closed = true
			continue
		}
		closed = false
		b.WriteByte("MLHVQCSTKmlhvqcstk"[i+9*d.throw(2)])
		for range 1 + d.throw(3) {
			if needs[i] == 5 {
				b.WriteString(" " + text(1+d.throw(4096)))
				b.WriteString(randomNumbers(d, 4, size))
			} else {
				b.WriteString(randomNumbers(d, needs[i], size))
			}
		}
	}
	return b.String()
}

func randomNumbers(d *dice, n, size int) string {
	var b strings.Builder
	for range n {
		b.WriteByte(" -"[d.throw(2)])
		b.WriteString(text(d.throw(size)))
	}
	return b.String()
}

// With an error there are no parts, however many stand ahead of it.
func TestNoPartsWithAnError(t *testing.T) {
	for _, n := range []int{0, 1, 2, 100, 4000} {
		ahead := "M1 1" + strings.Repeat("L2 2", n)
		for s, e := range map[string]api.Errno{"X": api.ErrSyntax, "ZZ": api.ErrSyntax, " 5": api.ErrSyntax, "L2147483648 0": api.ErrRange, "K0 1 1 1 1": api.ErrRange, strings.Repeat("h1", 4096): api.ErrLimit} {
			if got := parse(cut(ahead+s), 0); len(got.list) != 0 || got.e != e {
				t.Error(n, s, got.text())
			}
		}
	}
}
