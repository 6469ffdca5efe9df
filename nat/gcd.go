package nat

import "math/bits"

// Gcd is the greatest number that divides both, or the other one, if one is
// 0.
func Gcd(a, b []uint64) []uint64 {
	x, y := fresh(trim(a)), fresh(trim(b))
	if Cmp(x, y) < 0 {
		x, y = y, x
	}
	for len(y) > 1 {
		if s, ok := foresee(x, y); ok {
			x, y = s.apply(x, y)
			continue
		}
		_, rest, _ := DivMod(x, y)
		x, y = y, rest
	}
	if len(y) == 0 {
		return x
	}
	return Of(limbGcd(y[0], divideByLimb(x, y[0])))
}

// limbGcd is the greatest limb that divides both; x is not 0.
func limbGcd(x, y uint64) uint64 {
	for y != 0 {
		x, y = y, x%y
	}
	return x
}

// steps are several of Euclid's steps at once: with even, x and y become
// u0 x - v0 y and v1 y - u1 x, else what is below 0 of these is above.
type steps struct {
	u0, v0, u1, v1 uint64
	even           bool
}

// foresee goes Euclid's steps with the highest 64 bits alone, while by
// Collins' condition they are those of the whole numbers (Lehmer). y has two
// limbs at least and is not above x; false, if not even one step is sure.
func foresee(x, y []uint64) (steps, bool) {
	a, b := highest(x, y)
	s := steps{u1: 1}
	u2, v2 := uint64(0), uint64(1)
	for b >= v2 && a-b >= s.v1+v2 {
		q := a / b
		a, b = b, a-q*b
		s.u0, s.u1, u2 = s.u1, u2, s.u1+q*u2
		s.v0, s.v1, v2 = s.v1, v2, s.v1+q*v2
		s.even = !s.even
	}
	return s, s.v0 != 0
}

// highest is the 64 bits of x from its highest one on, and those of y that
// stand at the same height.
func highest(x, y []uint64) (a, b uint64) {
	n := len(x)
	s := uint(bits.LeadingZeros64(x[n-1]))
	a = x[n-1]<<s | x[n-2]>>(64-s)
	switch len(y) {
	case n:
		b = y[n-1]<<s | y[n-2]>>(64-s)
	case n - 1:
		b = y[n-2] >> (64 - s)
	}
	return a, b
}

// apply writes what x and y become over them, and tells it. Neither is above
// y then, so that the limbs of y are enough to reckon in.
func (s steps) apply(x, y []uint64) (newX, newY []uint64) {
	x = x[:len(y)]
	if s.even {
		mix(x, y, s.u0, s.v0, s.u1, s.v1)
		return trim(x), trim(y)
	}
	mix(y, x, s.v0, s.u0, s.v1, s.u1)
	return trim(y), trim(x)
}

// mix makes x and y, which are of one length, p x - q y and s y - r x.
func mix(x, y []uint64, p, q, r, s uint64) {
	var px, qy, rx, sy, carryP, carryQ, carryR, carryS, borrowX, borrowY uint64
	for i := range x {
		px, carryP = mulAdd(x[i], p, carryP)
		qy, carryQ = mulAdd(y[i], q, carryQ)
		rx, carryR = mulAdd(x[i], r, carryR)
		sy, carryS = mulAdd(y[i], s, carryS)
		x[i], borrowX = bits.Sub64(px, qy, borrowX)
		y[i], borrowY = bits.Sub64(sy, rx, borrowY)
	}
}
