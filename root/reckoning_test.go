package root

import (
	"testing"

	"gesso/nat"
)

// What comes out without a rest is counted, by each reckoning for itself.
func TestReckoningCounts(t *testing.T) {
	for range 2 {
		var r reckoning
		var count int64
		for v := range uint64(200) {
			a := nat.Of(v)
			s := r.root(a)
			if nat.Cmp(nat.Mul(s, s), a) == 0 {
				count++
			}
			if r.even.Load() != count {
				t.Error(v, r.even.Load(), count)
			}
		}
		if count != 15 {
			t.Error(count)
		}
	}
}
