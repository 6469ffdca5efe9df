package rat_test

import (
	"math/big"
	"regexp"
	"strings"
	"testing"

	"gesso/api"
	"gesso/rat"
)

// P3.2: Text, Parse.

func TestText(t *testing.T) {
	for i, a := range numbers() {
		want := toBig(a).RatString()
		for j, x := range forms(a) {
			if s := rat.Text(x); s != want {
				t.Error(i, j, s)
			}
		}
		if b, e := rat.Parse(want); e != api.OK || !is(b, toBig(a)) {
			t.Error(i, b, e)
		}
	}
	for s, a := range map[string]api.Rat{"0": rat.Of(0, -7), "2": rat.Of(8, 4), "-2": rat.Of(-2, 1), "-3/2": rat.Of(6, -4), "5": rat.Of(5, 0), "1/3": rat.Of(-1, -3)} {
		if rat.Text(a) != s {
			t.Error(s, rat.Text(a))
		}
	}
	if s := rat.Text(api.Rat{}); s != "0" {
		t.Error(s)
	}
}

var shape = regexp.MustCompile(`^-?[0-9]+(/[0-9]+)?$`)

// textOf is the fraction whose text s is, by another implementation.
func textOf(s string) (*big.Rat, bool) {
	if !shape.MatchString(s) {
		return nil, false
	}
	v, ok := new(big.Rat).SetString(s)
	return v, ok && v.RatString() == s
}

func checkParse(t *testing.T, s string) {
	t.Helper()
	a, e := rat.Parse(s)
	if want, ok := textOf(s); ok {
		if e != api.OK || !is(a, want) || rat.Text(a) != s {
			t.Errorf("%q: %v %v", s, a, e)
		}
		return
	}
	if e != api.ErrForm || !none(a) {
		t.Errorf("%q: %v %v", s, a, e)
	}
}

// All texts of up to five of these bytes, each of which is a text just if it
// is what Text tells.
func TestParseOfAllShortTexts(t *testing.T) {
	texts := []string{""}
	for i := 0; i < len(texts); i++ {
		checkParse(t, texts[i])
		if len(texts[i]) < 5 {
			for _, c := range "-/01269 x" {
				texts = append(texts, texts[i]+string(c))
			}
		}
	}
}

func TestParseNoFraction(t *testing.T) {
	for _, s := range []string{"", "/", "//", "1/", "/1", "-/2", "-1/", "1/1", "0/1", "-7/1", "1/0", "0/0", "-1/0", "1/00", "1/01", "1/02", "01/2", "00/2", "-0", "-0/3", "0/2", "0/7", "2/4", "-2/4", "6/9", "35/14", "1/-2", "-1/-2", "1/+2", "+1/2", "--1/2", "1/2/3", "1//2", "1 /2", "1/ 2", " 1/2", "1/2 ", "1/2\n", "1/2x", "x1/2", "1x/2", "1/2.0", "0.5", "1e3", "1:2", "1\\2", "1\u22152", "1\u20442", "\u0661/2", "1/2\x00", "\xff", "36893488147419103232/6", "340282366920938463463374607431768211456/18446744073709551616"} {
		if a, e := rat.Parse(s); !none(a) || e != api.ErrForm {
			t.Errorf("%q: %v %v", s, a, e)
		}
	}
	for c := range 256 {
		for _, s := range []string{"", "1", "12/35", "-5/7"} {
			for i := range len(s) + 1 {
				checkParse(t, s[:i]+string([]byte{byte(c)})+s[i:])
			}
		}
	}
}

func TestParseLength(t *testing.T) {
	nines := strings.Repeat("9", 20001)
	tens := "1" + strings.Repeat("0", 20000)
	for _, s := range []string{
		nines[:20000],
		"-" + nines[:19999],
		"-" + tens[:9999] + "/" + nines[:9999],
		tens[:1] + "/" + nines[:19998],
		tens[:19998] + "/3",
	} {
		if a, e := rat.Parse(s); len(s) != 20000 || e != api.OK || !is(a, mustBig(t, s)) || rat.Text(a) != s {
			t.Error(s[:2], len(s), e)
		}
	}
	for _, s := range []string{
		nines,
		"-" + nines[:20000],
		tens[:10000] + "/" + nines[:10000],
		tens[:19999] + "/3",
		"1/" + nines[:19999],
		strings.Repeat("/", 20001),
		strings.Repeat("x", 20001),
		string(make([]byte, 30000)),
	} {
		if a, e := rat.Parse(s); !none(a) || e != api.ErrLong {
			t.Error(s[:2], len(s), e)
		}
	}
	for _, s := range []string{
		nines[:19999] + "/",
		nines[:19998] + "/3",
		nines[:9999] + "//" + tens[:9999],
		tens[:19998] + "/1",
		tens[:19998] + "/0",
		tens[:19998] + "/5",
		strings.Repeat("/", 20000),
		strings.Repeat("x", 20000),
	} {
		if a, e := rat.Parse(s); len(s) != 20000 || !none(a) || e != api.ErrForm {
			t.Error(s[:2], len(s), e)
		}
	}
}

func mustBig(t *testing.T, s string) *big.Rat {
	t.Helper()
	v, ok := textOf(s)
	if !ok {
		t.Fatal("the test itself")
	}
	return v
}
