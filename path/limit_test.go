package path_test

import (
	"strings"
	"testing"
)

// P11.1: how many parts a path may have, and the place of the first one too
// many.

func TestMaxSegs(t *testing.T) {
	many := "M0 0" + strings.Repeat("L1 1", maxSegs-2)
	wants := []string{"L2 2", "l2 2", "H5", "v5", "Q1 1 1 1", "c1 1 1 1 1 1", "S1 1 1 1", "t1 1", "K1 1 1 1 1", "Z", "M3 3", " 2 2"}
	for _, last := range wants {
		whole := many + last
		got := parse(cut(whole), len(whole))
		if len(got.list) != maxSegs || got.at != 0 || got.e != 0 {
			t.Error(last, got.text())
		}
		for _, more := range wants {
			if more[0] == ' ' || last == "Z" && more == "Z" {
				continue
			}
			check(t, whole+more, tooMany(len(whole)))
			check(t, whole+more+"h1"+more, tooMany(len(whole)))
			check(t, whole+" ,"+more, tooMany(len(whole)+2))
		}
	}
}

// Of a further part the place is that of its first number.
func TestMaxSegsOfFurtherNumbers(t *testing.T) {
	for s, n := range map[string]int{"M": 2, "m": 2, "L": 2, "l": 2, "H": 1, "v": 1, "Q": 4, "c": 6, "S": 4, "T": 2, "k": 5} {
		numbers := strings.Repeat(" 1", n)
		ahead := "M0 0"
		count := maxSegs - 1
		if s == "M" || s == "m" {
			ahead, count = "", maxSegs
		}
		whole := ahead + s + strings.Repeat(numbers, count)
		if got := parse(cut(whole), 0); len(got.list) != maxSegs || got.e != 0 {
			t.Error(s, got.text())
		}
		check(t, whole+numbers, tooMany(len(whole)+1))
		check(t, whole+","+numbers+numbers, tooMany(len(whole)+2))
		check(t, whole+s+numbers, tooMany(len(whole)))
		check(t, whole+strings.Repeat(numbers, 5000), tooMany(len(whole)+1))
		if n > 1 {
			check(t, whole+" 1", syntax(len(whole)+2))
		}
	}
}

// A part too many is not looked at: no range error of its own, nor of a
// mirrored point, goes ahead; one of an earlier part does.
func TestLimitAndRange(t *testing.T) {
	many := "M0 0" + strings.Repeat("h0", maxSegs-2)
	for _, s := range []string{"L9999999999 0", "K0 1 1 1 1", "h9999999999", "V-9999999999"} {
		check(t, many+"h0"+s, tooMany(len(many)+2))
		check(t, many+s, outside(len(many)+1))
		check(t, many+s+s, outside(len(many)+1))
		check(t, many+s+"h0", outside(len(many)+1))
		check(t, many+"h0h0"+s, tooMany(len(many)+2))
	}
	check(t, many+"T1073741824 0T1 1", tooMany(len(many)+13))
	check(t, many+"T-1073741824 0 1 1", tooMany(len(many)+15))
	short := many[:len(many)-2]
	check(t, short+"T1073741824 0T1 1", outside(len(short)+13))
	check(t, short+"T1073741824 0T1 1h0", outside(len(short)+13))
	check(t, "M9999999999 0"+strings.Repeat("h0", 2*maxSegs), outside(1))
	check(t, strings.Repeat("M1 1Z", maxSegs/2)+"M1 1Z", tooMany(maxSegs/2*5))
	check(t, "M1 1"+strings.Repeat("ZM1 1", maxSegs/2-1)+"Z", parse(cut(strings.Repeat("M1 1Z", maxSegs/2)), 0))
}
