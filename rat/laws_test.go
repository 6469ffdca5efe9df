package rat_test

import (
	"testing"

	"gesso/api"
	"gesso/rat"
)

// P3.3: they are a field, and its order goes with Add, and with Mul by what
// is above 0.

// some are a few of the numbers, each in another form.
func some() []api.Rat {
	var l []api.Rat
	for i, a := range numbers() {
		if i < 12 || i%3 == 0 {
			fs := forms(a)
			l = append(l, fs[i%len(fs)])
		}
	}
	return l
}

func same(a, b api.Rat) bool {
	return rat.Good(a) && rat.Good(b) && rat.Cmp(a, b) == 0 && rat.Text(a) == rat.Text(b)
}

func TestNoughtAndOneAndOpposites(t *testing.T) {
	nought, one := rat.Of(0, 1), rat.Of(1, 1)
	for i, a := range some() {
		good := rat.Neg(rat.Neg(a))
		if !same(rat.Add(a, nought), good) || !same(rat.Mul(a, one), good) || !same(rat.Mul(a, nought), nought) || !same(rat.Add(a, rat.Neg(a)), nought) || rat.Cmp(a, good) != 0 {
			t.Error(i, a)
		}
		turned, e := rat.Div(one, a)
		if rat.Sign(a) == 0 {
			if e != api.ErrZero {
				t.Error(i, e)
			}
		} else if e != api.OK || !same(rat.Mul(a, turned), one) {
			t.Error(i, a, turned, e)
		}
	}
}

func TestField(t *testing.T) {
	l := some()
	for i, a := range l {
		for k, b := range l {
			sum, product := rat.Add(a, b), rat.Mul(a, b)
			if !same(sum, rat.Add(b, a)) || !same(product, rat.Mul(b, a)) || !same(rat.Sub(a, b), rat.Add(a, rat.Neg(b))) {
				t.Error(i, k)
			}
			if q, e := rat.Div(a, b); e == api.OK && rat.Cmp(rat.Mul(q, b), a) != 0 {
				t.Error(i, k, q)
			}
			for _, c := range l {
				if !same(rat.Add(sum, c), rat.Add(a, rat.Add(b, c))) || !same(rat.Mul(product, c), rat.Mul(a, rat.Mul(b, c))) || !same(rat.Mul(sum, c), rat.Add(rat.Mul(a, c), rat.Mul(b, c))) {
					t.Error(i, k, c)
				}
			}
		}
	}
}

func TestOrder(t *testing.T) {
	l := some()
	for i, a := range l {
		for k, b := range l {
			order := rat.Cmp(a, b)
			if rat.Cmp(b, a) != -order || rat.Sign(rat.Sub(a, b)) != order || (i == k) != (order == 0) {
				t.Error(i, k, order)
			}
			for _, c := range l {
				if rat.Cmp(rat.Add(a, c), rat.Add(b, c)) != order {
					t.Error(i, k, c)
				}
				if rat.Cmp(rat.Mul(a, c), rat.Mul(b, c)) != order*rat.Sign(c) {
					t.Error(i, k, c)
				}
				if order < 0 && rat.Cmp(b, c) < 0 && rat.Cmp(a, c) >= 0 {
					t.Error(i, k, c)
				}
			}
		}
	}
}

func TestParseOfTextIsTheFraction(t *testing.T) {
	for i, a := range some() {
		if b, e := rat.Parse(rat.Text(a)); e != api.OK || !rat.Good(b) || rat.Cmp(a, b) != 0 {
			t.Error(i, b, e)
		}
	}
}
