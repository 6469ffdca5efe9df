package area

import (
	"gesso/api"
	"gesso/pt"
	"gesso/rat"
)

// Half is what of l is not to the right of the line from a to b: point by
// point, those that are not, and where the line is crossed. It is l, if a and b
// are the same, since then nothing is to the right.
func Half(l []api.Pt, a, b api.Pt) []api.Pt {
	var told []api.Pt
	ring := closed(beside(l, a, b))
	for i := range l {
		p, next := ring[i], ring[i+1]
		if rat.Sign(p.aside) >= 0 {
			told = append(told, fresh(p.at))
		}
		if rat.Sign(p.aside)*rat.Sign(next.aside) < 0 {
			told = append(told, between(p, next))
		}
	}
	return told
}

// A corner is a point of a polygon, and how far it is to the left of a line, in
// a measure that all of them have in common.
type corner struct {
	at    api.Pt
	aside api.Rat
}

// beside are l's points beside the line from a to b.
func beside(l []api.Pt, a, b api.Pt) []corner {
	way, all := pt.Sub(b, a), make([]corner, len(l))
	for i, p := range l {
		all[i] = corner{at: p, aside: pt.Cross(way, pt.Sub(p, a))}
	}
	return all
}

// between is the point of the line between p and q, which are on different
// sides of it.
func between(p, q corner) api.Pt {
	// neither is on it, and their signs differ: so the difference is not 0
	share, _ := rat.Div(p.aside, rat.Sub(p.aside, q.aside))
	return pt.Mix(p.at, q.at, share)
}
