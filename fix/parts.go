package fix

import (
	"gesso/api"
	"gesso/rat"
)

// parts tells, by unit, how many parts of that unit there are.
type parts map[int64]int64

// sum is what all parts come to together; a unit below 1 has none. Fractions
// are exact, so that it does not hang on the map's order.
func (p parts) sum() api.Rat {
	total := rat.Of(0, 1)
	for unit, v := range p {
		if unit >= 1 {
			total = rat.Add(total, rat.Of(v, unit))
		}
	}
	return total
}
