package zed_test

import (
	"slices"
	"testing"

	"gesso/api"
	"gesso/zed"
)

// The rules that hold everywhere: what is handed in stays as it is, and what
// is told is new memory.

// roomy is a with spare room behind its limbs, in which nothing may be
// written.
func roomy(a api.Int) api.Int {
	z := make([]uint64, len(a.N)+5)
	copy(z, a.N)
	for i := len(a.N); i < len(z); i++ {
		z[i] = 77 + uint64(i)
	}
	return api.Int{Neg: a.Neg, N: z[:len(a.N)]}
}

func whole(a api.Int) []uint64 {
	return a.N[:cap(a.N)]
}

// answers are all numbers that calls tell of a and b.
func answers(a, b api.Int) []api.Int {
	q, r, _ := zed.DivMod(a, b)
	p, _ := zed.Parse(zed.Text(a))
	v, _ := zed.Small(a)
	return []api.Int{zed.Neg(a), zed.Add(a, b), zed.Sub(a, b), zed.Sub(a, api.Int{}), zed.Add(api.Int{}, b), zed.Mul(a, b), q, r, p, zed.Of(v), zed.Of(int64(zed.Cmp(a, b))), zed.Of(int64(zed.Sign(b)))}
}

func TestArgumentsAndAnswersShareNothing(t *testing.T) {
	for i, x := range numbers() {
		for k, y := range numbers() {
			a, b := roomy(x), roomy(y)
			first, second := slices.Clone(whole(a)), slices.Clone(whole(b))
			got := answers(a, b)
			var kept [][]uint64
			for _, z := range got {
				kept = append(kept, slices.Clone(z.N))
			}
			for j, z := range got {
				if !slices.Equal(z.N, kept[j]) {
					t.Error(i, k, j, "shares memory with an answer ahead")
				}
				for n := range whole(z) {
					whole(z)[n] = 0xbad
				}
			}
			if !slices.Equal(whole(a), first) || !slices.Equal(whole(b), second) {
				t.Error(i, k, "an argument is changed, or shared")
			}
			for j, z := range answers(a, b) {
				if !slices.Equal(z.N, kept[j]) {
					t.Error(i, k, j, "hangs on an answer that was told")
				}
			}
		}
	}
}
