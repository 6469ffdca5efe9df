package nat

import (
	"math"
	"math/big"
	"slices"
	"strings"
	"testing"

	"gesso/api"
)

// What ten times ten times .. is, told from the table, which Text and Parse
// do without.

func TestTenTo(t *testing.T) {
	for k := range 20 {
		want := new(big.Int).Exp(big.NewInt(10), big.NewInt(int64(k)), nil).Uint64()
		a, e := TenTo(k)
		if e != api.OK || !slices.Equal(a, []uint64{want}) {
			t.Error(k, a, e)
		}
		clear(a[:cap(a)])
		if b, _ := TenTo(k); !slices.Equal(b, []uint64{want}) {
			t.Error(k, b, "shares memory with an answer")
		}
	}
	for _, k := range []int{-1, 20, 21, 64, math.MinInt, math.MaxInt} {
		if a, e := TenTo(k); len(a) != 0 || e != api.ErrArg {
			t.Error(k, a, e)
		}
	}
}

// A table that is spoilt is told by TenTo, and by nothing else.
func TestTableStandsBeside(t *testing.T) {
	texts := []string{"0", "7", "10", "18446744073709551616", strings.Repeat("9", 38), strings.Repeat("1203", 5000)}
	TenTo(0)
	kept := tens
	defer func() { tens = kept }()
	tens = [len(tens)]uint64{3: 5}
	if a, e := TenTo(3); e != api.OK || !slices.Equal(a, []uint64{5}) {
		t.Error("the table is not read, or made more than once", a, e)
	}
	for _, s := range texts {
		a, e := Parse(s)
		if v, _ := new(big.Int).SetString(s, 10); e != api.OK || new(big.Int).SetBits(words(a)).Cmp(v) != 0 {
			t.Error(s[:1], len(s), "Parse hangs on the table", e)
		}
		if Text(a) != s {
			t.Error(s[:1], len(s), "Text hangs on the table")
		}
	}
}

func words(a []uint64) []big.Word {
	w := make([]big.Word, len(a))
	for i, v := range a {
		w[i] = big.Word(v)
	}
	return w
}
