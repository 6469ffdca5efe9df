package halve

import (
	"gesso/api"
	"gesso/rat"
)

// A room is where all parts of a curve come to stand side by side, so many
// control points each. The whole stands at its end first, where its right half
// ends too.

// parts are the parts of the curve of n control points that stands at the
// room's end, so many as the room holds.
func parts(room []api.Hom, n int) [][]api.Hom {
	if len(room) == n {
		return [][]api.Hom{room}
	}
	left, right := split(room)
	cut(last(left, n), last(right, n))
	return append(parts(left, n), parts(right, n)...)
}

// split is the room's two halves. The left one is told without spare room,
// which would be the right one: append would write over it.
func split(room []api.Hom) (left, right []api.Hom) {
	middle, end := len(room)/2, len(room)
	return room[:middle:middle], room[middle:end:end]
}

func last(room []api.Hom, n int) []api.Hom { return room[len(room)-n:] }

// cut makes whole its right half, and fills left with the other one. Each row
// is written over the one above it, but for that one's last control point,
// which so comes to stand where the right half has it.
func cut(left, whole []api.Hom) {
	for i := range left {
		left[i] = fresh(whole[0])
		for k := range len(whole) - 1 - i {
			whole[k] = middle(whole[k], whole[k+1])
		}
	}
}

// fresh is h, all its numbers good and in new memory.
func fresh(h api.Hom) api.Hom {
	return added(h, api.Hom{})
}

// middle is the Mix of p and q by 1/2.
func middle(p, q api.Hom) api.Hom {
	h, half := added(p, q), rat.Of(1, 2)
	return api.Hom{X: rat.Mul(h.X, half), Y: rat.Mul(h.Y, half), W: rat.Mul(h.W, half)}
}

// added is p and q together, number by number.
func added(p, q api.Hom) api.Hom {
	return api.Hom{X: rat.Add(p.X, q.X), Y: rat.Add(p.Y, q.Y), W: rat.Add(p.W, q.W)}
}
