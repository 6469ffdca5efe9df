// Package nat is natural numbers of any size: limbs of 64 bits, the lowest
// first. It is layer 1: see shared/doc/01-nat.md.
package nat

import (
	"cmp"
	"math/bits"

	"gesso/api"
)

// Good tells whether a's highest limb is not 0 (0 has none).
func Good(a []uint64) bool {
	return len(a) == 0 || a[len(a)-1] != 0
}

// Of is v as a number.
func Of(v uint64) []uint64 {
	if v == 0 {
		return nil
	}
	return []uint64{v}
}

// Cmp is -1, 0 or 1: a is below b, is b, is above it.
func Cmp(a, b []uint64) int {
	a, b = trim(a), trim(b)
	if len(a) != len(b) {
		return cmp.Compare(len(a), len(b))
	}
	for i := len(a) - 1; i >= 0; i-- {
		if a[i] != b[i] {
			return cmp.Compare(a[i], b[i])
		}
	}
	return 0
}

// Bits is how many bits a has, 0 of 0.
func Bits(a []uint64) int {
	a = trim(a)
	if len(a) == 0 {
		return 0
	}
	return 64*(len(a)-1) + bits.Len64(a[len(a)-1])
}

// Add is a and b together.
func Add(a, b []uint64) []uint64 {
	a, b = trim(a), trim(b)
	if len(a) < len(b) {
		a, b = b, a
	}
	sum := make([]uint64, len(a)+1)
	copy(sum, a)
	addTo(sum, b)
	return trim(sum)
}

// Sub is a less b: ErrBelow, if b is greater.
func Sub(a, b []uint64) ([]uint64, api.Errno) {
	a, b = trim(a), trim(b)
	if Cmp(a, b) < 0 {
		return nil, api.ErrBelow
	}
	rest := fresh(a)
	takeFrom(rest, b)
	return trim(rest), api.OK
}

// Shl is a times 2 to the k: ErrArg, unless k is from 0 to MaxShift.
func Shl(a []uint64, k int) ([]uint64, api.Errno) {
	if k < 0 || k > api.MaxShift {
		return nil, api.ErrArg
	}
	return raised(a, k), api.OK
}

// Shr is a by 2 to the k, cut: ErrArg, unless k is from 0 to MaxShift.
func Shr(a []uint64, k int) ([]uint64, api.Errno) {
	if k < 0 || k > api.MaxShift {
		return nil, api.ErrArg
	}
	return lowered(a, k), api.OK
}
