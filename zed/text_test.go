package zed_test

import (
	"math/big"
	"strings"
	"testing"

	"gesso/api"
	"gesso/zed"
)

// P2.3: Text, Parse.

func TestText(t *testing.T) {
	for i, a := range numbers() {
		want := toBig(a).String()
		for j, b := range forms(a) {
			if s := zed.Text(b); s != want {
				t.Error(i, j, s)
			}
		}
		if b, e := zed.Parse(want); e != api.OK || !is(b, toBig(a)) {
			t.Error(i, b, e)
		}
	}
	for _, v := range someInt64 {
		if s := zed.Text(zed.Of(v)); s != big.NewInt(v).String() {
			t.Error(v, s)
		}
	}
}

func TestParseLength(t *testing.T) {
	nines := strings.Repeat("9", 20000)
	for _, s := range []string{nines, "-" + nines[1:]} {
		want, _ := new(big.Int).SetString(s, 10)
		a, e := zed.Parse(s)
		if e != api.OK || !is(a, want) || zed.Text(a) != s {
			t.Error(s[:1], len(a.N), e)
		}
	}
	for _, s := range []string{nines + "9", "-" + nines, "--" + nines[1:], nines + "x", strings.Repeat("-", 20001), strings.Repeat("0", 20001)} {
		if a, e := zed.Parse(s); !none(a) || e != api.ErrLong {
			t.Error(s[:2], len(s), e)
		}
	}
	for _, s := range []string{nines[1:] + "-", "--" + nines[2:], "-0" + nines[2:], strings.Repeat("-", 20000), strings.Repeat("0", 20000)} {
		if a, e := zed.Parse(s); !none(a) || e != api.ErrForm {
			t.Error(s[:2], len(s), e)
		}
	}
}

func TestParseNoNumber(t *testing.T) {
	for _, s := range []string{"", "-", "--", "-0", "--0", "--1", "-+1", "+1", "+0", "00", "-00", "01", "-01", "1-", "-1-", "1-1", " 1", "- 1", "-1 ", "1\n", "\x00", "-\x00", "\u22121", "\u20131", "a", "-a", "-1a", "0x1", "1.0", "-1e3", "1_0", "\u0661", "-\uff11", "\xff", "\xad1"} {
		if a, e := zed.Parse(s); !none(a) || e != api.ErrForm {
			t.Errorf("%q: %v %v", s, a, e)
		}
	}
	for c := range 256 {
		a, e := zed.Parse(string([]byte{byte(c), '1'}))
		if fine := c == '-' || c >= '1' && c <= '9'; fine != (e == api.OK) || !fine && !none(a) {
			t.Error(c, a, e)
		}
	}
}

func TestParseOfTextIsTheNumber(t *testing.T) {
	for i, a := range numbers() {
		if b, e := zed.Parse(zed.Text(a)); e != api.OK || zed.Cmp(a, b) != 0 || !zed.Good(b) {
			t.Error(i, b, e)
		}
	}
}
