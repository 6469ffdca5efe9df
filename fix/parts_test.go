package fix

import (
	"math"
	"testing"

	"gesso/rat"
)

// What parts of several units come to, in whichever order they are gone
// through.
func TestPartsOfSeveralUnits(t *testing.T) {
	for i, x := range []struct {
		p parts
		s string
	}{
		{nil, "0"},
		{parts{}, "0"},
		{parts{64: 32}, "1/2"},
		{parts{64: 32, 1024: 256}, "3/4"},
		{parts{64: 32, 1024: -512}, "0"},
		{parts{1: -1, 2: 1, 3: 1, 6: 1}, "0"},
		{parts{64: 1, 255: 1, 1024: 1, 65536: 1}, "343231/16711680"},
		{parts{0: 7, -1: 8, math.MinInt64: 9}, "0"},
		{parts{0: 7, 2: 3, -64: 64}, "3/2"},
		{parts{1: math.MinInt64, 2: math.MaxInt64}, "-9223372036854775809/2"},
	} {
		for range 20 {
			if a := x.p.sum(); !rat.Good(a) || rat.Text(a) != x.s {
				t.Fatal(i, rat.Text(a))
			}
		}
	}
}
