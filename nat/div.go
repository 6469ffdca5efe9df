package nat

import (
	"math"
	"math/bits"

	"gesso/api"
)

// DivMod is how often b goes into a, and the rest: ErrZero, if b is 0.
func DivMod(a, b []uint64) (q, r []uint64, e api.Errno) {
	a, b = trim(a), trim(b)
	switch {
	case len(b) == 0:
		return nil, nil, api.ErrZero
	case Cmp(a, b) < 0:
		return nil, fresh(a), api.OK
	case len(b) == 1:
		q = fresh(a)
		rest := divideByLimb(q, b[0])
		return trim(q), Of(rest), api.OK
	}
	q, r = divideLong(a, b)
	return q, r, api.OK
}

// divideByLimb makes a its quotient by v and tells the rest.
func divideByLimb(a []uint64, v uint64) (rest uint64) {
	for i := len(a) - 1; i >= 0; i-- {
		a[i], rest = bits.Div64(rest, a[i], v)
	}
	return rest
}

// divideLong is for b of two limbs or more that is not above a. Both are
// shifted till b's highest bit is set: then a limb's guess is at most 2 off.
func divideLong(a, b []uint64) (q, r []uint64) {
	n := len(b)
	shift := uint(bits.LeadingZeros64(b[n-1]))
	rest := make([]uint64, len(a)+1)
	shiftUp(rest, a, shift)
	by := make([]uint64, n)
	shiftUp(by, b, shift)
	q = make([]uint64, len(a)-n+1)
	for i := len(q) - 1; i >= 0; i-- {
		q[i] = divideStep(rest[i:i+n+1], by)
	}
	r = rest[:n]
	shiftDown(r, r, shift)
	return trim(q), trim(r)
}

// divideStep takes by from u as often as it goes, and tells how often; u has
// one limb more, and less than by above its lowest one.
func divideStep(u, by []uint64) uint64 {
	n := len(by)
	often := guess(u[n], u[n-1], u[n-2], by[n-1], by[n-2])
	if takeProduct(u, by, often) {
		often--
		addTo(u, by)
	}
	return often
}

// guess is how often v1 v0 goes into u2 u1 u0 (or the highest limb): what is
// sought, or one more.
func guess(u2, u1, u0, v1, v0 uint64) uint64 {
	often, rest, carry := uint64(math.MaxUint64), uint64(0), uint64(0)
	if u2 < v1 {
		often, rest = bits.Div64(u2, u1, v1)
	} else {
		rest, carry = bits.Add64(u1, v1, 0)
	}
	for carry == 0 {
		high, low := bits.Mul64(often, v0)
		if high < rest || high == rest && low <= u0 {
			break
		}
		often--
		rest, carry = bits.Add64(rest, v1, 0)
	}
	return often
}

// takeProduct takes x times v from z, which has one limb more, and tells
// whether that was too much.
func takeProduct(z, x []uint64, v uint64) bool {
	var carry, borrow, low uint64
	for i, w := range x {
		low, carry = mulAdd(w, v, carry)
		z[i], borrow = bits.Sub64(z[i], low, borrow)
	}
	z[len(x)], borrow = bits.Sub64(z[len(x)], carry, borrow)
	return borrow != 0
}
