package pt

import "gesso/api"

// part tells one of a point's two numbers.
type part func(p api.Pt) api.Rat

func partX(p api.Pt) api.Rat { return p.X }

func partY(p api.Pt) api.Rat { return p.Y }

// made is the point each part of which is what reckon tells of it; what is
// reckoned is said once for both, so that they can't part.
func made(reckon func(of part) api.Rat) api.Pt {
	return api.Pt{X: reckon(partX), Y: reckon(partY)}
}
