package nat_test

import (
	"slices"
	"testing"

	"gesso/api"
	"gesso/nat"
)

// P1.1: Good, Of, Cmp, Bits, and what is not good.

func TestGood(t *testing.T) {
	for i, x := range []struct {
		a    []uint64
		good bool
	}{{nil, true}, {[]uint64{}, true}, {[]uint64{1}, true}, {[]uint64{0, 1}, true}, {[]uint64{0, top}, true}, {[]uint64{0}, false}, {[]uint64{0, 0}, false}, {[]uint64{1, 0}, false}, {[]uint64{1, 2, 0}, false}} {
		if nat.Good(x.a) != x.good {
			t.Error(i, x.a)
		}
	}
}

func TestOf(t *testing.T) {
	if a := nat.Of(0); len(a) != 0 {
		t.Error(a)
	}
	for _, v := range []uint64{1, 9, 1 << 63, top} {
		if a := nat.Of(v); !slices.Equal(a, []uint64{v}) {
			t.Error(v, a)
		}
	}
}

func TestCmp(t *testing.T) {
	rising := [][]uint64{nil, {1}, {2}, {1 << 63}, {top}, {0, 1}, {1, 1}, {top, 1}, {0, 2}, {0, top}, {top, top}, {0, 0, 1}, {1, 0, 1}, {0, 1, 1}, {0, 0, 1 << 63}}
	for i, a := range rising {
		for j, b := range rising {
			want := 0
			if i < j {
				want = -1
			} else if i > j {
				want = 1
			}
			for n := range 3 {
				if c := nat.Cmp(longer(a, n), longer(b, 2-n)); c != want {
					t.Error(a, b, n, c)
				}
			}
		}
	}
	for i, x := range pairs() {
		if nat.Cmp(x[0], x[1]) != toBig(x[0]).Cmp(toBig(x[1])) {
			t.Error(i)
		}
	}
}

func TestBits(t *testing.T) {
	for i, x := range []struct {
		a []uint64
		n int
	}{{nil, 0}, {[]uint64{0}, 0}, {[]uint64{0, 0}, 0}, {[]uint64{1}, 1}, {[]uint64{2}, 2}, {[]uint64{3}, 2}, {[]uint64{top}, 64}, {[]uint64{0, 1}, 65}, {[]uint64{top, top}, 128}, {[]uint64{5, 4, 0}, 67}} {
		if n := nat.Bits(x.a); n != x.n {
			t.Error(i, n)
		}
	}
	for i, a := range numbers() {
		if nat.Bits(a) != toBig(a).BitLen() {
			t.Error(i)
		}
	}
}

// answers are what all calls tell of a and b.
func answers(a, b []uint64) (l [][]uint64, errors []api.Errno) {
	less, e1 := nat.Sub(a, b)
	q, r, e2 := nat.DivMod(a, b)
	up, e3 := nat.Shl(a, 70)
	down, e4 := nat.Shr(a, 70)
	same, e5 := nat.Shl(a, 0)
	also, e6 := nat.Shr(a, 0)
	back, e7 := nat.Parse(nat.Text(a))
	l = [][]uint64{nat.Add(a, b), less, nat.Mul(a, b), q, r, up, down, same, also, back, nat.Gcd(a, b), nat.Sqrt(a), nat.Of(uint64(nat.Bits(a))), nat.Of(uint64(1 + nat.Cmp(a, b)))}
	return l, []api.Errno{e1, e2, e3, e4, e5, e6, e7}
}

func TestNotGoodCountsAsGood(t *testing.T) {
	for i, x := range pairs() {
		a, b := toLimbs(toBig(x[0])), toLimbs(toBig(x[1]))
		want, errors := answers(a, b)
		got, others := answers(longer(a, i%3), longer(b, 1+i%2))
		for j := range want {
			if !nat.Good(got[j]) || !nat.Good(want[j]) || !slices.Equal(got[j], want[j]) {
				t.Error(i, j, "differs")
			}
		}
		if !slices.Equal(errors, others) {
			t.Error(i, errors, others)
		}
	}
}
