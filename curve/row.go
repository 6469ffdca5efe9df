package curve

import (
	"iter"

	"gesso/api"
	"gesso/rat"
)

// rows are l and the rows below it, one by one, down to the one of one control
// point. The first one is l's own memory.
func rows(l []api.Hom, t api.Rat) iter.Seq[[]api.Hom] {
	return func(yield func([]api.Hom) bool) {
		row := l
		for len(row) > 0 && yield(row) {
			row = below(row, t)
		}
	}
}

// below is the Mix by t of each two of the row that stand one behind the other.
func below(row []api.Hom, t api.Rat) []api.Hom {
	var next []api.Hom
	for i := range len(row) - 1 {
		next = append(next, mix(row[i], row[i+1], t))
	}
	return next
}

// mix is p and t times the way from p to q, of the weight too.
func mix(p, q api.Hom, t api.Rat) api.Hom {
	return api.Hom{X: between(p.X, q.X, t), Y: between(p.Y, q.Y, t), W: between(p.W, q.W, t)}
}

func between(a, b, t api.Rat) api.Rat {
	return rat.Add(a, rat.Mul(rat.Sub(b, a), t))
}
