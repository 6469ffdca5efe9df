package halve_test

import (
	"slices"
	"testing"

	"gesso/api"
	"gesso/halve"
	"gesso/rat"
)

// The rules that hold everywhere: what is handed in stays as it is, what is
// told is new memory, and nothing is kept from call to call.

// roomy is l with spare room behind each list of limbs, and with control
// points in its own spare room, in which nothing may be written.
func roomy(l []api.Hom) []api.Hom {
	wide := func(a api.Rat) api.Rat {
		for _, l := range []*[]uint64{&a.P.N, &a.Q} {
			*l = append(slices.Clone(*l), 41, 42, 43)
			*l = (*l)[:len(*l)-3]
		}
		return a
	}
	var all []api.Hom
	for _, h := range append(slices.Clone(l), plain(9)...) {
		all = append(all, api.Hom{X: wide(h.X), Y: wide(h.Y), W: wide(h.W)})
	}
	return all[:len(l)]
}

// limbsOf are all lists of limbs of l, those in its spare room too.
func limbsOf(l []api.Hom) [][]uint64 {
	var all [][]uint64
	for _, a := range numbersOf(l[:cap(l)]) {
		all = append(all, a.P.N, a.Q)
	}
	return all
}

// room is all that stands in l, spare room and all.
func room(l []api.Hom) []uint64 {
	var all []uint64
	for _, a := range limbsOf(l) {
		all = append(append(all, uint64(len(a))), a[:cap(a)]...)
	}
	for _, a := range numbersOf(l[:cap(l)]) {
		if all = append(all, 0); a.P.Neg {
			all[len(all)-1] = 1
		}
	}
	return all
}

// told are all lists of control points that calls tell of l.
func told(l []api.Hom, deep int) [][]api.Hom {
	var all [][]api.Hom
	for range 2 {
		a, b, _ := halve.Cut(l)
		m, _ := halve.Many(l, deep)
		all = append(append(all, a, b), m...)
	}
	return all
}

// checkSpoiled fills each of what is told, spare room and all, and looks that
// those behind it, what was handed in and later answers stay as they are:
// first what stands in the lists of control points, then limbs.
func checkSpoiled(t *testing.T, l []api.Hom, deep int, spoil func([]api.Hom)) {
	t.Helper()
	ahead, all := room(l), told(l, deep)
	want := texts(all)
	for i, part := range all {
		behind := texts(all[i+1:])
		spoil(part[:cap(part)])
		if texts(all[i+1:]) != behind {
			t.Error(text(l), deep, i, "shares memory with one behind it")
		}
	}
	for i, part := range all {
		ahead := texts(all[:i])
		spoil(part[:cap(part)])
		if texts(all[:i]) != ahead {
			t.Error(text(l), deep, i, "shares memory with one ahead of it")
		}
	}
	if !slices.Equal(room(l), ahead) {
		t.Error(text(l), deep, "an argument is changed, or shared")
	}
	if got := texts(told(l, deep)); got != want {
		t.Error(text(l), deep, "hangs on an answer that was told", got)
	}
}

func spoilControls(l []api.Hom) {
	for i := range l {
		l[i] = api.Hom{X: rat.Of(int64(i), 97), Y: rat.Of(-1, 89), W: rat.Of(83, 1)}
	}
}

func spoilLimbs(l []api.Hom) {
	for _, a := range limbsOf(l) {
		for i := range a[:cap(a)] {
			a[:cap(a)][i] += 0xbad
		}
	}
}

func checkMemory(t *testing.T, l []api.Hom, deep int) {
	t.Helper()
	checkSpoiled(t, l, deep, spoilControls)
	checkSpoiled(t, l, deep, spoilLimbs)
}

func TestArgumentsAndAnswersShareNothing(t *testing.T) {
	for i, c := range curves() {
		for deep := range 4 {
			checkMemory(t, roomy(given(c)), deep)
			checkMemory(t, roomy(shaped(given(c), i+deep)), deep)
		}
	}
	for _, l := range [][]api.Hom{nil, plain(1), plain(5), {{}, {}}} {
		for _, deep := range []int{-1, 0, 3, 11} {
			checkMemory(t, roomy(l), deep)
		}
	}
}

// One list may stand in all numbers, and one control point at all places.
func TestOneArgumentManyTimes(t *testing.T) {
	for _, v := range numbers("1 1/2 18446744073709551615/18446744073709551616 22/7 1e60") {
		for _, a := range forms(fraction(v)) {
			h := roomy([]api.Hom{{X: a, Y: a, W: a}})[0]
			h.Y, h.W = h.X, h.X
			for n := 2; n < 5; n++ {
				checkMemory(t, slices.Repeat([]api.Hom{h}, n), 2)
			}
		}
	}
}

// Each list of limbs of one answer is its own, in one control point too, and
// where two parts meet.
func TestLimbsOfOneAnswerShareNothing(t *testing.T) {
	for i, c := range curves() {
		for deep := range 4 {
			var all [][]uint64
			for _, part := range told(shaped(given(c), i), deep) {
				all = append(all, limbsOf(part)...)
			}
			for k, a := range all {
				for n := range a[:cap(a)] {
					a[:cap(a)][n] = uint64(k)
				}
			}
			for k, a := range all {
				if slices.ContainsFunc(a[:cap(a)], func(v uint64) bool { return v != uint64(k) }) {
					t.Error(i, deep, k)
				}
			}
		}
	}
}

// What is put behind a part is written into none of the others, nor is what is
// put behind the list of parts.
func TestAppendToParts(t *testing.T) {
	more := plain(4)
	for i, c := range curves() {
		for deep := range 5 {
			m, _ := halve.Many(given(c), deep)
			n, _ := halve.Many(given(c), deep)
			want := texts(m)
			for _, part := range m {
				_ = append(part, more...)
			}
			_ = append(m, more, more)
			if texts(m) != want || texts(n) != want {
				t.Error(i, deep, texts(m))
			}
		}
		a, b, _ := halve.Cut(given(c))
		want := text(b)
		if _ = append(a, more...); text(b) != want {
			t.Error(i, text(b))
		}
	}
}

// Beside an error what was told before stays as it is.
func TestErrorsAfterAnswers(t *testing.T) {
	l := plain(4)
	want := told(l, 3)
	kept := texts(want)
	for _, bad := range [][]api.Hom{nil, plain(1), plain(5), append(plain(2), api.Hom{})} {
		for _, deep := range []int{-1, 0, 10, 11} {
			told(bad, deep)
		}
	}
	if texts(want) != kept || texts(told(l, 3)) != kept {
		t.Error(texts(want))
	}
}
