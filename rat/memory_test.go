package rat_test

import (
	"slices"
	"testing"

	"gesso/api"
	"gesso/rat"
)

// The rules that hold everywhere: what is handed in stays as it is, and what
// is told is new memory.

// roomy is a with spare room behind both lists of limbs, in which nothing may
// be written.
func roomy(a api.Rat) api.Rat {
	return with(a, withRoom(a.P.N), withRoom(a.Q))
}

func withRoom(a []uint64) []uint64 {
	z := make([]uint64, len(a)+4)
	copy(z, a)
	for i := len(a); i < len(z); i++ {
		z[i] = 31 + uint64(i)
	}
	return z[:len(a)]
}

// memory is all that a's lists have, spare room and all.
func memory(a api.Rat) [][]uint64 {
	return [][]uint64{slices.Clone(a.P.N[:cap(a.P.N)]), slices.Clone(a.Q[:cap(a.Q)])}
}

// answers are all lists of limbs that calls tell of a and b.
func answers(a, b api.Rat) [][]uint64 {
	var l [][]uint64
	quotient, _ := rat.Div(a, b)
	made, _ := rat.Make(a.P, b.P)
	parsed, _ := rat.Parse(rat.Text(a))
	operated, _ := rat.Operate('-', a, b)
	cmp, sign := int64(rat.Cmp(a, b)), int64(rat.Sign(a))
	for _, x := range []api.Rat{rat.Neg(a), rat.Abs(a), rat.Add(a, b), rat.Sub(a, b), rat.Add(a, api.Rat{}), rat.Sub(api.Rat{}, b), rat.Mul(a, b), rat.Mul(a, rat.Of(1, 1)), quotient, operated, made, parsed, rat.Of(cmp, sign)} {
		l = append(l, x.P.N, x.Q)
	}
	return append(l, rat.Floor(a).N, rat.Ceil(a).N, rat.Floor(b).N, rat.Ceil(b).N)
}

func sameLists(a, b [][]uint64) bool {
	return slices.EqualFunc(a, b, slices.Equal[[]uint64])
}

func TestArgumentsAndAnswersShareNothing(t *testing.T) {
	for i, x := range numbers() {
		for k, y := range numbers() {
			xs, ys := forms(x), forms(y)
			a, b := roomy(xs[k%len(xs)]), roomy(ys[i%len(ys)])
			first, second := memory(a), memory(b)
			got := answers(a, b)
			var kept [][]uint64
			for _, z := range got {
				kept = append(kept, slices.Clone(z))
			}
			for j, z := range got {
				if !slices.Equal(z, kept[j]) {
					t.Error(i, k, j, "shares memory with a list ahead")
				}
				for n := range z[:cap(z)] {
					z[:cap(z)][n] = 0xbad
				}
			}
			if !sameLists(memory(a), first) || !sameLists(memory(b), second) {
				t.Error(i, k, "an argument is changed, or shared")
			}
			if !sameLists(answers(a, b), kept) {
				t.Error(i, k, "hangs on an answer that was told")
			}
		}
	}
}

// One fraction handed in twice shares memory with itself.
func TestOneArgumentTwice(t *testing.T) {
	for i, x := range numbers() {
		for j, a := range forms(x) {
			q, e := rat.Div(a, a)
			if rat.Sign(a) == 0 != (e == api.ErrZero) || e == api.OK && rat.Text(q) != "1" {
				t.Error(i, j, q, e)
			}
			if rat.Cmp(a, a) != 0 || rat.Sign(rat.Sub(a, a)) != 0 || rat.Cmp(rat.Add(a, a), rat.Mul(a, rat.Of(2, 1))) != 0 {
				t.Error(i, j)
			}
		}
	}
}
