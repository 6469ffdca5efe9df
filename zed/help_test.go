package zed_test

import (
	"math"
	"math/big"
	"slices"

	"gesso/api"
)

const top = math.MaxUint64

// dice tells limbs that look thrown and are the same in each run.
type dice uint64

func (d *dice) limb() uint64 {
	*d = *d*6364136223846793005 + 1442695040888963407
	z := uint64(*d)
	return (z ^ z>>29) * 0xbf58476d1ce4e5b9
}

// sizes are limbs beside the powers of two, thrown ones, and none.
func sizes() [][]uint64 {
	l := [][]uint64{nil, {1}, {2}, {3}, {7}, {1<<63 - 2}, {1<<63 - 1}, {1 << 63}, {1<<63 + 1}, {top - 1}, {top}, {0, 1}, {1, 1}, {top, 1}, {0, 1 << 63}, {top, top}, {0, 0, 1}, {5, 0, 0, 4}}
	d := dice(1)
	for n := 1; n < 9; n++ {
		a := make([]uint64, n)
		for i := range a {
			a[i] = d.limb()
		}
		l = append(l, a)
	}
	return l
}

// numbers are all sizes, above 0 and below.
func numbers() []api.Int {
	var l []api.Int
	for _, a := range sizes() {
		l = append(l, api.Int{N: a})
		if len(a) > 0 {
			l = append(l, api.Int{Neg: true, N: a})
		}
	}
	return l
}

// forms are a, and what is not good but comes to a.
func forms(a api.Int) []api.Int {
	l := []api.Int{a, {Neg: a.Neg, N: longer(a.N, 1)}, {Neg: a.Neg, N: longer(a.N, 3)}}
	if len(a.N) == 0 {
		l = append(l, api.Int{Neg: true}, api.Int{Neg: true, N: []uint64{}}, api.Int{Neg: true, N: []uint64{0, 0}})
	}
	return l
}

func longer(a []uint64, n int) []uint64 {
	return append(slices.Clone(a), make([]uint64, n)...)
}

func toBig(a api.Int) *big.Int {
	w := make([]big.Word, len(a.N))
	for i, v := range a.N {
		w[i] = big.Word(v)
	}
	v := new(big.Int).SetBits(w)
	if a.Neg {
		v.Neg(v)
	}
	return v
}

// is tells whether a is good and is want.
func is(a api.Int, want *big.Int) bool {
	good := !a.Neg
	if n := len(a.N); n > 0 {
		good = a.N[n-1] != 0
	}
	return good && toBig(a).Cmp(want) == 0
}

func none(a api.Int) bool {
	return !a.Neg && len(a.N) == 0
}
