package root

import (
	"sync/atomic"

	"gesso/nat"
)

// A reckoning takes roots of natural numbers, and counts those that were
// reckoned without a rest. One call has one of its own, so that nothing is
// kept from call to call.
type reckoning struct {
	even atomic.Int64
}

// root is the greatest number whose square is not above a.
func (r *reckoning) root(a []uint64) []uint64 {
	root := nat.Sqrt(a)
	if nat.Cmp(nat.Mul(root, root), a) == 0 {
		r.even.Add(1)
	}
	return root
}
