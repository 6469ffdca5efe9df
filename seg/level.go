package seg

import (
	"gesso/api"
	"gesso/rat"
)

// Level is the X at which the segment from a to b has the Y y: false, if it has
// not, or if it is level.
func Level(a, b api.Pt, y api.Rat) (api.Rat, bool) {
	return along(y, a.Y, b.Y, a.X, b.X)
}

// Upright is the Y at which the segment from a to b has the X x: false, if it
// has not, or if it is upright.
func Upright(a, b api.Pt, x api.Rat) (api.Rat, bool) {
	return along(x, a.X, b.X, a.Y, b.Y)
}

// along is what is as far on the way from first to last as v is on the way from
// a to b: false, if v is not on that one, or if it is no way.
func along(v, a, b, first, last api.Rat) (api.Rat, bool) {
	part, ok := share(rat.Sub(v, a), rat.Sub(b, a))
	if !ok {
		return api.Rat{}, false
	}
	return rat.Add(first, rat.Mul(part, rat.Sub(last, first))), true
}

// share is how much of the whole the part is: false, if it is below 0 or above
// 1, or if the whole is 0.
func share(part, whole api.Rat) (api.Rat, bool) {
	of, err := rat.Div(part, whole)
	if err != api.OK || rat.Sign(of) < 0 || rat.Cmp(of, rat.Of(1, 1)) > 0 {
		return api.Rat{}, false
	}
	return of, true
}
