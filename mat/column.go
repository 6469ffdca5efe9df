package mat

import "gesso/api"

// A column is two of a map's entries that belong together, as a point.
type column func(m api.Mat) api.Pt

// first is where m brings (1, 0) as a direction.
func first(m api.Mat) api.Pt { return api.Pt{X: m.A, Y: m.B} }

// second is where m brings (0, 1) as a direction.
func second(m api.Mat) api.Pt { return api.Pt{X: m.C, Y: m.D} }

// moved is where m brings the point (0, 0).
func moved(m api.Mat) api.Pt { return api.Pt{X: m.E, Y: m.F} }

// by is the map whose columns are p, q and r.
func by(p, q, r api.Pt) api.Mat {
	return api.Mat{A: p.X, B: p.Y, C: q.X, D: q.Y, E: r.X, F: r.Y}
}
