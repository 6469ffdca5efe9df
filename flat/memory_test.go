package flat_test

import (
	"slices"
	"testing"

	"gesso/api"
	"gesso/flat"
	"gesso/rat"
)

// The rules that hold everywhere: what is handed in stays as it is, what is
// told is new memory, and nothing is kept from call to call.

// wide is a with spare room behind each list of limbs.
func wide(a api.Rat) api.Rat {
	for _, l := range []*[]uint64{&a.P.N, &a.Q} {
		*l = append(slices.Clone(*l), 41, 42, 43)
		*l = (*l)[:len(*l)-3]
	}
	return a
}

// roomy is l with spare room behind each list of limbs, and with control
// points in its own spare room, in which nothing may be written.
func roomy(l []api.Hom) []api.Hom {
	var all []api.Hom
	for _, h := range append(slices.Clone(l), plain(9)...) {
		all = append(all, api.Hom{X: wide(h.X), Y: wide(h.Y), W: wide(h.W)})
	}
	return all[:len(l)]
}

// room is all that stands in l and in tol, spare room and all.
func room(l []api.Hom, tol api.Rat) []uint64 {
	var all []uint64
	for _, a := range append(numbersOf(l[:cap(l)]), tol) {
		for _, n := range limbsOf(a) {
			all = append(append(all, uint64(len(n))), n[:cap(n)]...)
		}
		if all = append(all, 0); a.P.Neg {
			all[len(all)-1] = 1
		}
	}
	return all
}

func limbsOf(a api.Rat) [][]uint64 { return [][]uint64{a.P.N, a.Q} }

// told are all answers that calls tell of l and tol: whether it is flat as 1,
// or 0.
func told(l []api.Hom, tol api.Rat) []api.Rat {
	var all []api.Rat
	for range 2 {
		gap, _ := flat.Gap(l)
		is := rat.Of(0, 1)
		if flat.Is(l, tol) {
			is = rat.Of(1, 1)
		}
		all = append(all, gap, is)
	}
	return all
}

func texts(l []api.Rat) string {
	s := ""
	for _, a := range l {
		s += rat.Text(a) + " "
	}
	return s
}

func spoil(a api.Rat) {
	for _, l := range limbsOf(a) {
		for i := range l[:cap(l)] {
			l[:cap(l)][i] += 0xbad
		}
	}
}

// checkMemory fills each of what is told, spare room and all, and looks that
// those behind it, what was handed in and later answers stay as they are.
func checkMemory(t *testing.T, l []api.Hom, tol api.Rat) {
	t.Helper()
	ahead := room(l, tol)
	all := told(l, tol)
	want := texts(all)
	for i, a := range all {
		behind := texts(all[i+1:])
		spoil(a)
		if texts(all[i+1:]) != behind {
			t.Error(text(l), i, "shares memory with one behind it")
		}
	}
	if !slices.Equal(room(l, tol), ahead) {
		t.Error(text(l), "an argument is changed, or shared")
	}
	if got := texts(told(l, tol)); got != want {
		t.Error(text(l), "hangs on an answer that was told", got)
	}
}

func TestArgumentsAndAnswersShareNothing(t *testing.T) {
	for i, c := range curves() {
		for k, tol := range numbers("-1 0 1/64 2 1e60") {
			all := forms(fraction(tol))
			checkMemory(t, roomy(given(c)), wide(all[0]))
			checkMemory(t, roomy(shaped(given(c), i+k)), wide(all[(i+k)%len(all)]))
		}
	}
	for _, l := range [][]api.Hom{nil, plain(1), plain(5), {{}, {}}} {
		for _, tol := range numbers("-1 0 2") {
			checkMemory(t, roomy(l), wide(fraction(tol)))
		}
	}
}

// One list may stand in all numbers, one control point at all places, and the
// tolerance in it.
func TestOneArgumentManyTimes(t *testing.T) {
	for _, v := range numbers("1 1/2 18446744073709551615/18446744073709551616 22/7 1e60") {
		for _, a := range forms(fraction(v)) {
			a = wide(a)
			for n := 2; n < 5; n++ {
				checkMemory(t, slices.Repeat([]api.Hom{{X: a, Y: a, W: a}}, n), a)
				checkMemory(t, append(slices.Repeat([]api.Hom{{X: a, Y: a, W: a}}, n-1), api.Hom{W: a}), a)
			}
		}
	}
}

// Both lists of limbs of one answer are their own.
func TestLimbsOfOneAnswerShareNothing(t *testing.T) {
	for i, c := range curves() {
		gap, e := flat.Gap(shaped(given(c), i))
		want := slices.Clone(gap.Q)
		for k := range gap.P.N[:cap(gap.P.N)] {
			gap.P.N[:cap(gap.P.N)][k] += 0xbad
		}
		if !slices.Equal(gap.Q, want) || e != api.OK {
			t.Error(i, gap, e)
		}
	}
}

// What was told stays as it is when what it was told of is changed, and when
// other calls, errors too, come behind.
func TestLaterCallsChangeNothing(t *testing.T) {
	for _, c := range curves() {
		l, tol := roomy(given(c)), wide(rat.Of(2, 1))
		kept := told(l, tol)
		want := texts(kept)
		for _, a := range append(numbersOf(l), tol) {
			spoil(a)
		}
		for _, other := range [][]api.Hom{nil, plain(1), plain(3), plain(4), plain(5), append(plain(2), api.Hom{})} {
			told(other, rat.Of(-1, 3))
			told(other, rat.Of(22, 7))
		}
		if texts(kept) != want || texts(told(given(c), rat.Of(2, 1))) != want {
			t.Error(text(given(c)), texts(kept))
		}
	}
}
