package path_test

import (
	"slices"
	"strings"
	"testing"
	"unsafe"

	"gesso/api"
	"gesso/path"
)

// The rules that hold everywhere: what is handed in stays as it is and is not
// kept, what is told is new memory, and nothing is kept from call to call.

func memoryTexts() []string {
	return []string{"", "M", "M1 2", "M1 2L3 4z", "m1 2 3 4 5 6z", "M1 2Q1 2 3 4t5 6 7 8C1 1 2 2 3 3s4 4 5 5K9 1 1 2 2", "M1 2ZZ", "M9999999999 0", "M1 2K0 1 1 1 1", "M1 2\n", "L1 2", "M1 2Zl1 1", strings.Repeat("M1 1", 5000), "M0 0" + strings.Repeat("h1", 1000)}
}

// roomy is l with spare room behind it, in which nothing may be written.
func roomy(l []api.Token) []api.Token {
	return append(slices.Clone(l), word(-41, "X"), num(-42, 42), end(-43))[:len(l)]
}

func TestTokensStayAsTheyAre(t *testing.T) {
	for _, s := range memoryTexts() {
		l := roomy(cut(s))
		ahead := slices.Clone(l[:cap(l)])
		got := parse(l, len(s))
		if !slices.Equal(l[:cap(l)], ahead) {
			t.Errorf("%q: tokens are changed", s[:min(len(s), 80)])
		}
		// the answer does not hang on them any more
		want := answer{slices.Clone(got.list), got.at, got.e}
		for i := range l[:cap(l)] {
			l[:cap(l)][i] = api.Token{Kind: 9, S: "bad", N: 9, At: 9}
		}
		if !got.equal(want) {
			t.Errorf("%q: the answer shares memory with the tokens", s[:min(len(s), 80)])
		}
	}
}

func TestPartsStayAsTheyAre(t *testing.T) {
	d := dice(4)
	for n := range 200 {
		all := append(goodPath(&d, 1+n, 1000), api.Seg{Kind: 41}, api.Seg{Kind: 42}, api.Seg{Kind: 43})
		if n%3 == 2 {
			all[n/2].Kind += 8
		}
		l := all[:len(all)-3]
		ahead := slices.Clone(all)
		good := path.Good(l)
		s, e := path.Text(l)
		kept := strings.Clone(s)
		if !slices.Equal(all, ahead) || good != (n%3 != 2) || good != (e == api.OK) {
			t.Error(n, "parts are changed", good, e)
		}
		for i := range all {
			all[i] = api.Seg{Kind: 9}
		}
		if s != kept {
			t.Error(n, "the text shares memory with the parts")
		}
	}
}

func TestAnswersShareNothing(t *testing.T) {
	for _, s := range memoryTexts() {
		l := cut(s)
		a, b := parse(l, 5), parse(l, 5)
		want := answer{slices.Clone(b.list), b.at, b.e}
		for i := range a.list[:cap(a.list)] {
			a.list[:cap(a.list)][i] = seg(9, 9, 9, 9, 9, 9, 9, 9)
		}
		if !b.equal(want) {
			t.Errorf("%q: two answers share a list", s[:min(len(s), 80)])
		}
		checkTokens(t, l, 5, want)
		x, _ := path.Text(b.list)
		y, _ := path.Text(b.list)
		kept := strings.Clone(y)
		for i := range len(x) {
			unsafe.Slice(unsafe.StringData(x), len(x))[i] = '#'
		}
		if z, _ := path.Text(b.list); y != kept || z != kept {
			t.Errorf("%q: two texts share memory", s[:min(len(s), 80)])
		}
	}
}

// What is told hangs on the tokens alone, not on the calls ahead.
func TestCallsAheadChangeNothing(t *testing.T) {
	for _, s := range memoryTexts() {
		l := cut(s)
		want := parse(l, 5)
		text, e := path.Text(want.list)
		for _, ahead := range memoryTexts() {
			x := parse(cut(ahead), 7)
			path.Text(x.list)
			checkTokens(t, l, 5, want)
			if again, f := path.Text(want.list); again != text || e != f {
				t.Errorf("%q: another text", s[:min(len(s), 80)])
			}
		}
	}
}
