package nat

import "math/bits"

// trim is a without its highest limbs that are 0, in a's own memory.
func trim(a []uint64) []uint64 {
	for len(a) > 0 && a[len(a)-1] == 0 {
		a = a[:len(a)-1]
	}
	return a
}

// fresh is a in memory of its own, so that it may be told or written to.
func fresh(a []uint64) []uint64 {
	z := make([]uint64, len(a))
	copy(z, a)
	return z
}

// addTo adds x to z, which is at least as long; what is carried out of z is
// lost.
func addTo(z, x []uint64) {
	var carry uint64
	for i, v := range x {
		z[i], carry = bits.Add64(z[i], v, carry)
	}
	for i := len(x); carry != 0 && i < len(z); i++ {
		z[i], carry = bits.Add64(z[i], 0, carry)
	}
}

// takeFrom takes x, which is not above it, from z, which is at least as long.
func takeFrom(z, x []uint64) {
	var borrow uint64
	for i, v := range x {
		z[i], borrow = bits.Sub64(z[i], v, borrow)
	}
	for i := len(x); borrow != 0 && i < len(z); i++ {
		z[i], borrow = bits.Sub64(z[i], 0, borrow)
	}
}

// mulAdd is x y and c: its low limb and its high one.
func mulAdd(x, y, c uint64) (low, high uint64) {
	high, low = bits.Mul64(x, y)
	low, carry := bits.Add64(low, c, 0)
	return low, high + carry
}

// raised is a times 2 to the k, however great k is.
func raised(a []uint64, k int) []uint64 {
	a = trim(a)
	if len(a) == 0 {
		return nil
	}
	z := make([]uint64, k/64+len(a)+1)
	shiftUp(z[k/64:], a, uint(k%64))
	return trim(z)
}

// lowered is a by 2 to the k, cut, however great k is.
func lowered(a []uint64, k int) []uint64 {
	a = trim(a)
	if k/64 >= len(a) {
		return nil
	}
	z := make([]uint64, len(a)-k/64)
	shiftDown(z, a[k/64:], uint(k%64))
	return trim(z)
}

// shiftUp lays x times 2 to the s (below 64) into z; z has as many limbs, if
// nothing goes beyond them, else one more.
func shiftUp(z, x []uint64, s uint) {
	var beyond uint64
	for i, v := range x {
		z[i] = v<<s | beyond
		beyond = v >> (64 - s)
	}
	if len(z) > len(x) {
		z[len(x)] = beyond
	}
}

// shiftDown lays x by 2 to the s (below 64), cut, into z, which has as many
// limbs and may be x itself.
func shiftDown(z, x []uint64, s uint) {
	for i := range x {
		z[i] = x[i] >> s
		if i+1 < len(x) {
			z[i] |= x[i+1] << (64 - s)
		}
	}
}
