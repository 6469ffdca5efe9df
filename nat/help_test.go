package nat_test

import (
	"math"
	"math/big"
	"testing"

	"gesso/nat"
)

const top = math.MaxUint64

// dice tells numbers that look thrown and are the same in each run.
type dice uint64

func (d *dice) limb() uint64 {
	*d += 0x9e3779b97f4a7c15
	z := uint64(*d)
	z = (z ^ z>>30) * 0xbf58476d1ce4e5b9
	z = (z ^ z>>27) * 0x94d049bb133111eb
	return z ^ z>>31
}

func (d *dice) below(n int) int {
	return int(d.limb() % uint64(n))
}

// number has n limbs: any; only 0 and those beside powers of two; all ones;
// mostly noughts. It need not be good.
func (d *dice) number(n int) []uint64 {
	a := make([]uint64, n)
	sort := d.below(4)
	for i := range a {
		switch sort {
		case 0:
			a[i] = d.limb()
		case 1:
			a[i] = []uint64{0, 1, 1 << 63, 1<<63 - 1, top}[d.below(5)]
		case 2:
			a[i] = top
		case 3:
			if d.below(3) == 0 {
				a[i] = d.limb() >> d.below(64)
			}
		}
	}
	return a
}

// numbers are many, from no limb to more than two hundred.
func numbers() [][]uint64 {
	d := dice(1)
	var l [][]uint64
	for n := range 12 {
		for range 6 {
			l = append(l, d.number(n))
		}
	}
	for n := 12; n < 220; n += 1 + n/8 {
		l = append(l, d.number(n), d.number(n))
	}
	return l
}

// pairs are each of the numbers with some others, and with what makes it
// come out evenly, or nearly so.
func pairs() [][2][]uint64 {
	d := dice(2)
	l := numbers()
	var p [][2][]uint64
	for i, a := range l {
		for range 8 {
			p = append(p, [2][]uint64{a, l[d.below(len(l))]})
		}
		b := l[d.below(len(l))]
		ab := toLimbs(new(big.Int).Mul(toBig(a), toBig(b)))
		p = append(p, [2][]uint64{a, a}, [2][]uint64{ab, b}, [2][]uint64{b, ab}, [2][]uint64{ab, l[i/2]})
	}
	return p
}

func toBig(a []uint64) *big.Int {
	w := make([]big.Word, len(a))
	for i, v := range a {
		w[i] = big.Word(v)
	}
	return new(big.Int).SetBits(w)
}

func toLimbs(v *big.Int) []uint64 {
	var a []uint64
	for _, w := range v.Bits() {
		a = append(a, uint64(w))
	}
	return a
}

// is tells whether a is good and is want.
func is(a []uint64, want *big.Int) bool {
	return (len(a) == 0 || a[len(a)-1] != 0) && toBig(a).Cmp(want) == 0
}

// longer is a with limbs that are 0 above, so that it is not good.
func longer(a []uint64, n int) []uint64 {
	return append(append([]uint64{}, a...), make([]uint64, n)...)
}

func mustShl(t *testing.T, a []uint64, k int) []uint64 {
	t.Helper()
	z, e := nat.Shl(a, k)
	if e != 0 {
		t.Fatal(k, e)
	}
	return z
}
