package fix_test

import (
	"math"
	"math/big"
	"testing"

	"gesso/api"
	"gesso/fix"
	"gesso/rat"
)

// P5.1: Byte.

func TestByteOfFew(t *testing.T) {
	for i, x := range []struct {
		p, q int64
		b    byte
	}{
		{0, 1, 0},
		{1, 1, 255},
		{1, 2, 128},
		{-1, 2, 0},
		{3, 2, 255},
		{1, 510, 1},
		{1, 511, 0},
		{1, 509, 1},
		{-1, 510, 0},
		{-1, 255, 0},
		{-1, 1, 0},
		{254, 255, 254},
		{509, 510, 255},
		{508, 509, 254},
		{510, 511, 255},
		{507, 510, 254},
		{506, 510, 253},
		{256, 255, 255},
		{257, 255, 255},
		{2, 1, 255},
		{1, math.MaxInt64, 0},
		{1, math.MinInt64, 0},
		{math.MaxInt64 - 1, math.MaxInt64, 255},
		{math.MaxInt64, math.MaxInt64 - 1, 255},
		{math.MaxInt64, 1, 255},
		{math.MinInt64, 1, 0},
		{math.MinInt64, math.MinInt64, 255},
		{256, 1, 255},
		{-256, 1, 0},
		{-255, 1, 0},
	} {
		if b := fix.Byte(rat.Of(x.p, x.q)); b != x.b {
			t.Error(i, b)
		}
	}
}

// byteOf is what the document asks, by another implementation.
func byteOf(v *big.Rat) byte {
	switch {
	case v.Sign() < 0:
		return 0
	case v.Cmp(big.NewRat(1, 1)) > 0:
		return 255
	}
	return byte(nearest(v, 255).Int64())
}

func checkByte(t *testing.T, v *big.Rat, a api.Rat) {
	t.Helper()
	if b := fix.Byte(a); b != byteOf(v) {
		t.Error(v, a, b)
	}
}

func TestByteOfAny(t *testing.T) {
	for _, v := range bases() {
		for _, a := range forms(fraction(v)) {
			checkByte(t, v, a)
		}
	}
	for q := int64(1); q < 40; q++ {
		for p := int64(-5); p < 45; p++ {
			checkByte(t, big.NewRat(p, q), rat.Of(p, q))
		}
	}
}

// Each number by 255 is its own byte, whichever form it has, and so is what is
// less than half a part beside.
func TestByteOfEach(t *testing.T) {
	for n := range int64(256) {
		v := big.NewRat(n, 255)
		for _, a := range forms(fraction(v)) {
			if b := fix.Byte(a); b != byte(n) {
				t.Error(n, a, b)
			}
		}
		for _, near := range []*big.Rat{big.NewRat(1, 511), big.NewRat(-1, 511), tiny(70), new(big.Rat).Neg(tiny(70))} {
			if b := fix.Byte(fraction(new(big.Rat).Add(v, near))); b != byte(n) {
				t.Error(n, near, b)
			}
		}
		if b := fix.Byte(fix.From(n, 255)); b != byte(n) {
			t.Error(n, b)
		}
	}
}

func TestByteJustBetween(t *testing.T) {
	for n := range int64(255) {
		half := big.NewRat(2*n+1, 510)
		for _, a := range forms(fraction(half)) {
			if b := fix.Byte(a); b != byte(n+1) {
				t.Error(n, a, b)
			}
		}
		for _, by := range []uint{30, 64, 300} {
			if b := fix.Byte(fraction(new(big.Rat).Sub(half, tiny(by)))); b != byte(n) {
				t.Error(n, by, b)
			}
			if b := fix.Byte(fraction(new(big.Rat).Add(half, tiny(by)))); b != byte(n+1) {
				t.Error(n, by, b)
			}
		}
	}
}

func TestByteBesideTheEnds(t *testing.T) {
	for _, end := range []*big.Rat{new(big.Rat), big.NewRat(1, 1), big.NewRat(1, 510), big.NewRat(509, 510), big.NewRat(-1, 510), big.NewRat(511, 510)} {
		for _, v := range beside(end) {
			for _, a := range forms(fraction(v)) {
				checkByte(t, v, a)
			}
		}
	}
}

// Q 0, or none, counts as 1, and a nought has no sign.
func TestByteOfNoGoodFraction(t *testing.T) {
	for i, x := range []struct {
		a api.Rat
		b byte
	}{
		{api.Rat{}, 0},
		{api.Rat{P: api.Int{Neg: true}}, 0},
		{api.Rat{P: api.Int{Neg: true, N: []uint64{0}}, Q: []uint64{3}}, 0},
		{api.Rat{P: api.Int{N: []uint64{1}}}, 255},
		{api.Rat{P: api.Int{N: []uint64{1, 0}}, Q: []uint64{0, 0}}, 255},
		{api.Rat{P: api.Int{Neg: true, N: []uint64{1}}, Q: []uint64{0}}, 0},
		{api.Rat{P: api.Int{N: []uint64{2}}, Q: []uint64{4}}, 128},
		{api.Rat{P: api.Int{N: []uint64{2, 0}}, Q: []uint64{1020, 0}}, 1},
		{api.Rat{P: api.Int{N: []uint64{4}}, Q: []uint64{4}}, 255},
	} {
		if b := fix.Byte(x.a); b != x.b {
			t.Error(i, b)
		}
	}
}
