package fix_test

import (
	"slices"
	"testing"

	"gesso/api"
	"gesso/fix"
)

// The rules that hold everywhere: what is handed in stays as it is, what is
// told is new memory, and nothing is kept from call to call.

// roomy is a with spare room behind both lists, in which nothing may be
// written.
func roomy(a api.Rat) api.Rat {
	for _, l := range []*[]uint64{&a.P.N, &a.Q} {
		*l = append(slices.Clone(*l), 41, 42, 43)
		*l = (*l)[:len(*l)-3]
	}
	return a
}

// room is all that stands in a's lists, spare room and all.
func room(a api.Rat) []uint64 {
	return slices.Concat(a.P.N[:cap(a.P.N)], a.Q[:cap(a.Q)])
}

// told are all lists that calls tell of a, and of numbers of parts.
func told(a api.Rat) [][]uint64 {
	var l [][]uint64
	for _, unit := range []int64{1, 64, 255, 65536, 1 << 62, 0, -1} {
		for _, v := range []int64{0, 1, -96, 1 << 40, -1 << 63} {
			b := fix.From(v, unit)
			l = append(l, b.P.N, b.Q)
		}
		l = append(l, fix.To(a, unit).N)
	}
	again, more := fix.To(a, 1), fix.From(64, 64)
	return append(l, again.N, more.P.N, more.Q, []uint64{uint64(fix.Byte(a))})
}

func TestArgumentsAndAnswersShareNothing(t *testing.T) {
	for _, v := range bases() {
		for j, b := range forms(fraction(v)) {
			a := roomy(b)
			ahead := room(a)
			got := told(a)
			var kept [][]uint64
			for _, l := range got {
				kept = append(kept, slices.Clone(l))
			}
			for i, l := range got {
				if !slices.Equal(l, kept[i]) {
					t.Error(v, j, i, "shares memory with a list ahead")
				}
				for n := range l[:cap(l)] {
					l[:cap(l)][n] = 0xbad
				}
			}
			if !slices.Equal(room(a), ahead) {
				t.Error(v, j, "the argument is changed, or shared")
			}
			if !slices.EqualFunc(told(a), kept, slices.Equal[[]uint64]) {
				t.Error(v, j, "hangs on an answer that was told")
			}
		}
	}
}
