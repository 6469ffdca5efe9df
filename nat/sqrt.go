package nat

import "math/bits"

// Sqrt is the greatest number whose square is not above a. Newton's steps,
// each of which knows about twice as many bits of the root as the one ahead;
// behind each of them the root is at most one too great.
func Sqrt(a []uint64) []uint64 {
	a = trim(a)
	if len(a) == 0 {
		return nil
	}
	half := (Bits(a) - 1) / 2
	first, known, left := limbSqrt(a, half)
	root := Of(first)
	for left--; left >= 0; left-- {
		was := known
		known = half >> left
		q, _, _ := DivMod(lowered(a, 2*half-was-known+1), root)
		root = Add(raised(root, known-was-1), q)
	}
	if Cmp(Mul(root, root), a) > 0 {
		takeFrom(root, Of(1))
	}
	return trim(root)
}

// limbSqrt goes those steps that stay within a limb: the root, how many of
// its bits below the highest one are known, and how many steps are left.
func limbSqrt(a []uint64, half int) (root uint64, known, left int) {
	root = 1
	for left = bits.Len(uint(half)); left > 0 && half>>(left-1) < 32; left-- {
		was := known
		known = half >> (left - 1)
		root = root<<(known-was-1) + limbAt(a, 2*half-was-known+1)/root
	}
	return root, known, left
}

// limbAt is the 64 bits of a from bit k on.
func limbAt(a []uint64, k int) uint64 {
	v := a[k/64] >> (k % 64)
	if k/64+1 < len(a) {
		v |= a[k/64+1] << (64 - k%64)
	}
	return v
}
