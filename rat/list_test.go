package rat

import (
	"testing"

	"gesso/api"
)

// A list that is spoilt is told by Operate, and by nothing else.
func TestListStandsBeside(t *testing.T) {
	Operate('+', Of(1, 2), Of(1, 3))
	kept := operations
	defer func() { operations = kept }()
	spoilt := func(a, b api.Rat) (api.Rat, api.Errno) { return Of(77, 1), api.ErrMany }
	operations = []operation{spoilt, spoilt, spoilt, spoilt}
	for _, sign := range []byte(signs) {
		if a, e := Operate(sign, Of(1, 2), Of(1, 3)); e != api.ErrMany || Text(a) != "77" {
			t.Error("the list is not read, or made more than once", a, e)
		}
	}
	operations = nil
	for i, x := range []struct{ a, b, sum, difference, product, quotient string }{
		{"1/2", "1/3", "5/6", "1/6", "1/6", "3/2"},
		{"-5/4", "3/4", "-1/2", "-2", "-15/16", "-5/3"},
		{"0", "-7", "-7", "7", "0", "0"},
	} {
		a, e := Parse(x.a)
		b, f := Parse(x.b)
		quotient, g := Div(a, b)
		if e != api.OK || f != api.OK || g != api.OK || Text(quotient) != x.quotient {
			t.Error(i, quotient, e, f, g)
		}
		if Text(Add(a, b)) != x.sum || Text(Sub(a, b)) != x.difference || Text(Mul(a, b)) != x.product {
			t.Error(i, Text(Add(a, b)), Text(Sub(a, b)), Text(Mul(a, b)))
		}
	}
	if a, e := Div(Of(1, 2), api.Rat{}); e != api.ErrZero || len(a.P.N)+len(a.Q) != 0 {
		t.Error(a, e)
	}
}
