package area

import (
	"gesso/api"
	"gesso/pt"
	"gesso/rat"
)

// Convex tells whether l has at least three points, no two of them the same and
// not all on one line, and none to the right of a side.
//
// Those are just the polygons that turn to the left all along and go round
// once: so each side is held against the next one alone, not against all
// points. Fewer than three points can't but turn back, or stand still.
func Convex(l []api.Pt) bool {
	ring, rounds := closed(ways(l)), 0
	for i := range l {
		way, next := ring[i], ring[i+1]
		if !left(way, next) {
			return false
		}
		// by such turns alone, it ceases to go down once a round
		if down(way) && !down(next) {
			rounds++
		}
	}
	return rounds == 1
}

// ways are the ways from each of l's points to the next one.
func ways(l []api.Pt) []api.Pt {
	ring, all := closed(l), make([]api.Pt, len(l))
	for i, p := range l {
		all[i] = pt.Sub(ring[i+1], p)
	}
	return all
}

// left tells whether next goes straight on, or turns by less than half a round
// to the left: false, if one of both is no way.
func left(way, next api.Pt) bool {
	side := rat.Sign(pt.Cross(way, next))
	return side > 0 || side == 0 && rat.Sign(pt.Dot(way, next)) > 0
}

// down tells whether way brings Y down.
func down(way api.Pt) bool {
	return rat.Sign(way.Y) < 0
}
