package area

import (
	"slices"

	"gesso/api"
	"gesso/rat"
)

// Box is the least X and the least Y that l has, and the greatest ones: false
// of none.
func Box(l []api.Pt) (least, most api.Pt, ok bool) {
	if len(l) == 0 {
		return api.Pt{}, api.Pt{}, false
	}
	least = api.Pt{X: slices.MinFunc(l, byX).X, Y: slices.MinFunc(l, byY).Y}
	most = api.Pt{X: slices.MaxFunc(l, byX).X, Y: slices.MaxFunc(l, byY).Y}
	return fresh(least), fresh(most), true
}

func byX(p, q api.Pt) int { return rat.Cmp(p.X, q.X) }

func byY(p, q api.Pt) int { return rat.Cmp(p.Y, q.Y) }
