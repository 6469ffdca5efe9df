package nat

import "math/bits"

// fewLimbs is up to where limb by limb is quicker than by halves.
const fewLimbs = 40

// Mul is a times b.
func Mul(a, b []uint64) []uint64 {
	return trim(product(trim(a), trim(b)))
}

// product is a times b in new memory, as many limbs as both have together.
func product(a, b []uint64) []uint64 {
	if len(a) < len(b) {
		a, b = b, a
	}
	half := (len(a) + 1) / 2
	switch {
	case len(b) <= fewLimbs:
		return limbProduct(a, b)
	case len(b) <= half:
		return unevenProduct(a, b, half)
	}
	return halvesProduct(a, b, half)
}

func limbProduct(a, b []uint64) []uint64 {
	z := make([]uint64, len(a)+len(b))
	for i, v := range b {
		z[i+len(a)] = addProduct(z[i:i+len(a)], a, v)
	}
	return z
}

// addProduct adds x times v to z, which is as long as x, and tells what is
// carried out of it.
func addProduct(z, x []uint64, v uint64) uint64 {
	var carry uint64
	for i, w := range x {
		low, high := mulAdd(w, v, carry)
		z[i], carry = bits.Add64(z[i], low, 0)
		carry += high
	}
	return carry
}

// unevenProduct cuts a alone, since b is no longer than half of it.
func unevenProduct(a, b []uint64, half int) []uint64 {
	z := make([]uint64, len(a)+len(b))
	copy(z, product(a[:half], b))
	addTo(z[half:], product(a[half:], b))
	return z
}

// halvesProduct cuts both (Karatsuba): with a = a1 B + a0, b = b1 B + b0 the
// middle is (a1 + a0)(b1 + b0) less both ends, so that three products do.
func halvesProduct(a, b []uint64, half int) []uint64 {
	low := product(a[:half], b[:half])
	high := product(a[half:], b[half:])
	middle := product(Add(a[:half], a[half:]), Add(b[:half], b[half:]))
	takeFrom(middle, trim(low))
	takeFrom(middle, trim(high))
	z := make([]uint64, len(a)+len(b))
	copy(z, low)
	copy(z[2*half:], high)
	addTo(z[half:], trim(middle))
	return z
}
