package nat_test

import (
	"math"
	"math/big"
	"slices"
	"strings"
	"testing"

	"gesso/api"
	"gesso/nat"
)

// P1.3: Shl, Shr, Text, Parse.

func TestShifts(t *testing.T) {
	for i, a := range numbers() {
		for _, k := range []int{0, 1, 63, 64, 65, 127, 128, 1000 + i, 100000} {
			up, e := nat.Shl(a, k)
			down, f := nat.Shr(a, k)
			if e != api.OK || !is(up, new(big.Int).Lsh(toBig(a), uint(k))) {
				t.Error(i, k, "up", e)
			}
			if f != api.OK || !is(down, new(big.Int).Rsh(toBig(a), uint(k))) {
				t.Error(i, k, "down", f)
			}
		}
	}
}

func TestShiftEnds(t *testing.T) {
	for _, a := range [][]uint64{nil, {0}, {1}, {7, 0, 9}} {
		for _, k := range []int{-1, -64, math.MinInt, api.MaxShift + 1, api.MaxShift + 64, math.MaxInt} {
			if z, e := nat.Shl(a, k); len(z) != 0 || e != api.ErrArg {
				t.Error("up", a, k, z, e)
			}
			if z, e := nat.Shr(a, k); len(z) != 0 || e != api.ErrArg {
				t.Error("down", a, k, z, e)
			}
		}
		for _, k := range []int{0, api.MaxShift - 1, api.MaxShift} {
			up := mustShl(t, a, k)
			if !is(up, new(big.Int).Lsh(toBig(a), uint(k))) {
				t.Error("up", a, k)
			}
			if down, e := nat.Shr(up, k); e != api.OK || !is(down, toBig(a)) {
				t.Error("down again", a, k, e)
			}
		}
	}
	if z, e := nat.Shr(mustShl(t, []uint64{5}, api.MaxShift-1), api.MaxShift); e != api.OK || !slices.Equal(z, []uint64{2}) {
		t.Error(z, e)
	}
}

func TestText(t *testing.T) {
	for s, a := range map[string][]uint64{"0": nil, "1": {1}, "10": {10}, "7": {7, 0}, "18446744073709551615": {top}, "18446744073709551616": {0, 1}, "340282366920938463463374607431768211455": {top, top, 0, 0}} {
		if nat.Text(a) != s {
			t.Error(s, nat.Text(a))
		}
	}
	if nat.Text([]uint64{0, 0}) != "0" || nat.Text([]uint64{}) != "0" {
		t.Error("nought")
	}
	d := dice(4)
	for n := range 300 {
		a, ones, least := d.number(n), slices.Repeat([]uint64{top}, n), mustShl(t, []uint64{1}, 64*n)
		for i, x := range [][]uint64{a, ones, least} {
			if nat.Text(x) != toBig(x).String() {
				t.Error(n, i)
			}
		}
	}
	if a := mustShl(t, []uint64{1}, api.MaxShift); nat.Text(a) != toBig(a).String() {
		t.Error("the longest shift")
	}
}

// Beside the powers of ten digits change their count, and noughts stand
// within.
func TestTextBesideTens(t *testing.T) {
	for k := range 900 {
		noughts := strings.Repeat("0", k)
		for _, s := range []string{"1" + noughts, strings.Repeat("9", k+1), "1" + noughts + "1", "7" + noughts + "305"} {
			v, _ := new(big.Int).SetString(s, 10)
			a := toLimbs(v)
			if nat.Text(a) != s {
				t.Error(k, s[:1], nat.Text(a))
			}
			if b, e := nat.Parse(s); e != api.OK || !slices.Equal(a, b) {
				t.Error(k, s[:1], b, e)
			}
		}
	}
}

func TestParse(t *testing.T) {
	if a, e := nat.Parse("0"); e != api.OK || len(a) != 0 {
		t.Error(a, e)
	}
	for v := range uint64(1200) {
		s := new(big.Int).SetUint64(v).String()
		if a, e := nat.Parse(s); e != api.OK || !slices.Equal(a, nat.Of(v)) {
			t.Error(v, a, e)
		}
	}
	for i, a := range numbers() {
		if b, e := nat.Parse(toBig(a).String()); e != api.OK || !is(b, toBig(a)) {
			t.Error(i, b, e)
		}
	}
}

func TestParseLength(t *testing.T) {
	full := strings.Repeat("9", 20000)
	if a, e := nat.Parse(full); e != api.OK || nat.Text(a) != full {
		t.Error(e)
	}
	for _, s := range []string{full + "9", "0" + full, full + "x", strings.Repeat("x", 20001), strings.Repeat("0", 30000)} {
		if a, e := nat.Parse(s); len(a) != 0 || e != api.ErrLong {
			t.Error(len(s), s[:1], e)
		}
	}
	for _, s := range []string{full[1:] + "x", "x" + full[1:], "0" + full[1:], strings.Repeat("x", 20000)} {
		if a, e := nat.Parse(s); len(a) != 0 || e != api.ErrForm {
			t.Error(len(s), s[:1], e)
		}
	}
}

func TestParseNoNumber(t *testing.T) {
	for _, s := range []string{"", "00", "01", "007", "-", "-1", "-0", "+1", " 1", "1 ", "1\n", "1\x00", "\x001", "/", ":", "1/", "1:", "a", "1a", "0x10", "1_000", "1.0", "1e3", "\u0661", "1\u0662", "\uff11", "\xff", "\xb1", strings.Repeat("1", 18) + "x", strings.Repeat("1", 19) + "x", "x" + strings.Repeat("1", 38)} {
		if a, e := nat.Parse(s); len(a) != 0 || e != api.ErrForm {
			t.Errorf("%q: %v %v", s, a, e)
		}
	}
	for c := range 256 {
		_, e := nat.Parse(string([]byte{'1', byte(c), '1'}))
		if digit := c >= '0' && c <= '9'; digit != (e == api.OK) {
			t.Error(c, e)
		}
	}
}
