package rat_test

import (
	"math"
	"math/big"
	"slices"

	"gesso/api"
)

const top = math.MaxUint64

// dice tells limbs that look thrown and are the same in each run.
type dice uint64

func (d *dice) limb() uint64 {
	*d = *d*6364136223846793005 + 1442695040888963407
	z := uint64(*d)
	return (z ^ z>>31) * 0x94d049bb133111eb
}

func (d *dice) limbs(n int) []uint64 {
	a := make([]uint64, n)
	for i := range a {
		a[i] = d.limb() | 1
	}
	return a
}

// numbers are fractions in lowest terms, above 0 and below: whole ones, those
// beside limbs' ends, and thrown ones of up to five limbs.
func numbers() []api.Rat {
	l := []api.Rat{{Q: []uint64{1}}}
	for _, x := range [][2][]uint64{
		{{1}, {1}}, {{2}, {1}}, {{1}, {2}}, {{3}, {2}}, {{7}, {2}}, {{1}, {3}}, {{2}, {3}}, {{22}, {7}}, {{1}, {100}}, {{6}, {35}}, {{35}, {6}},
		{{1<<63 - 1}, {1}}, {{1 << 63}, {1}}, {{top}, {1}}, {{0, 1}, {1}}, {{1}, {1 << 63}}, {{1}, {top}}, {{top}, {1 << 63}}, {{1 << 63}, {top}},
		{{1}, {0, 1}}, {{top}, {0, 1}}, {{1, 1}, {0, 1}}, {{0, 1}, {top}}, {{top, top}, {0, 0, 1}}, {{0, 0, 1}, {top, top}},
	} {
		l = both(l, x[0], x[1])
	}
	d := dice(3)
	for n := range 9 {
		p, q := d.limbs(1+n/2), d.limbs(1+n%4)
		common := new(big.Int).GCD(nil, nil, natural(p), natural(q))
		l = both(l, limbs(new(big.Int).Quo(natural(p), common)), limbs(new(big.Int).Quo(natural(q), common)))
	}
	return l
}

// both is l with p by q behind it, above 0 and below.
func both(l []api.Rat, p, q []uint64) []api.Rat {
	return append(l, api.Rat{P: api.Int{N: p}, Q: q}, api.Rat{P: api.Int{Neg: true, N: p}, Q: q})
}

// forms are a, which is good, and what is not good but comes to a.
func forms(a api.Rat) []api.Rat {
	l := []api.Rat{a, with(a, longer(a.P.N, 1), a.Q), with(a, a.P.N, longer(a.Q, 2)), with(a, longer(a.P.N, 3), longer(a.Q, 1))}
	for _, k := range [][]uint64{{2}, {35}, {1 << 63}, {top, 1}} {
		p, q := times(a.P.N, k), times(a.Q, k)
		l = append(l, with(a, p, q), with(a, longer(p, 1), longer(q, 2)))
	}
	if slices.Equal(a.Q, []uint64{1}) {
		l = append(l, with(a, a.P.N, nil), with(a, a.P.N, []uint64{}), with(a, a.P.N, []uint64{0}), with(a, longer(a.P.N, 1), []uint64{0, 0}))
	}
	if len(a.P.N) == 0 {
		for _, b := range l[:len(l):len(l)] {
			b.P.Neg = true
			l = append(l, b)
		}
	}
	return l
}

func with(a api.Rat, p, q []uint64) api.Rat {
	return api.Rat{P: api.Int{Neg: a.P.Neg, N: p}, Q: q}
}

func longer(a []uint64, n int) []uint64 {
	return append(slices.Clone(a), make([]uint64, n)...)
}

func times(a, k []uint64) []uint64 {
	return limbs(new(big.Int).Mul(natural(a), natural(k)))
}

func natural(a []uint64) *big.Int {
	w := make([]big.Word, len(a))
	for i, v := range a {
		w[i] = big.Word(v)
	}
	return new(big.Int).SetBits(w)
}

func limbs(v *big.Int) []uint64 {
	var a []uint64
	for _, w := range v.Bits() {
		a = append(a, uint64(w))
	}
	return a
}

func toInt(a api.Int) *big.Int {
	v := natural(a.N)
	if a.Neg {
		v.Neg(v)
	}
	return v
}

// toBig is the fraction that a comes to.
func toBig(a api.Rat) *big.Rat {
	q := natural(a.Q)
	if q.Sign() == 0 {
		q.SetInt64(1)
	}
	return new(big.Rat).SetFrac(toInt(a.P), q)
}

func goodInt(a api.Int) bool {
	if len(a.N) == 0 {
		return !a.Neg
	}
	return a.N[len(a.N)-1] != 0
}

// is tells whether a is good and is want.
func is(a api.Rat, want *big.Rat) bool {
	if !goodInt(a.P) || len(a.Q) == 0 || a.Q[len(a.Q)-1] == 0 {
		return false
	}
	return toInt(a.P).Cmp(want.Num()) == 0 && natural(a.Q).Cmp(want.Denom()) == 0
}

// isWhole tells whether a is good and is want.
func isWhole(a api.Int, want *big.Int) bool {
	return goodInt(a) && toInt(a).Cmp(want) == 0
}

// none tells whether a is what stands beside an error.
func none(a api.Rat) bool {
	return !a.P.Neg && len(a.P.N) == 0 && len(a.Q) == 0
}
