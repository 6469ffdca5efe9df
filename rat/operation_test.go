package rat_test

import (
	"strings"
	"testing"

	"gesso/api"
	"gesso/rat"
)

// What two fractions come to by an operation's sign, as Add, Sub, Mul and Div
// tell it.

func TestOperate(t *testing.T) {
	for i, a := range numbers() {
		for k, b := range numbers() {
			xs, ys := forms(a), forms(b)
			x, y := xs[k%len(xs)], ys[i%len(ys)]
			quotient, e := rat.Div(a, b)
			for _, w := range []struct {
				sign byte
				want api.Rat
				e    api.Errno
			}{{'+', rat.Add(a, b), api.OK}, {'-', rat.Sub(a, b), api.OK}, {'*', rat.Mul(a, b), api.OK}, {'/', quotient, e}} {
				z, e := rat.Operate(w.sign, x, y)
				if e != w.e || e == api.OK && !is(z, toBig(w.want)) || e != api.OK && !none(z) {
					t.Error(i, k, string(w.sign), z, e)
				}
			}
		}
	}
}

func TestOperateByNoSign(t *testing.T) {
	for sign := range 256 {
		for _, b := range []api.Rat{rat.Of(2, 3), {}} {
			z, e := rat.Operate(byte(sign), rat.Of(1, 2), b)
			if !strings.ContainsRune("+-*/", rune(sign)) && (e != api.ErrArg || !none(z)) {
				t.Error(sign, z, e)
			}
		}
	}
}
