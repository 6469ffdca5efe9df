package path

import "gesso/api"

const maxWeight = 4096

// A pen draws parts, one behind the other.
type pen struct {
	list   []api.Seg
	stands [2]int64
	moved  [2]int64 // the last Move's point
}

// draw adds the part; or tells the error and its place.
func (p *pen) draw(x part) (int, api.Errno) {
	if len(p.list) == api.MaxSegs {
		return x.place, api.ErrLimit
	}
	s := api.Seg{Kind: x.kind}
	s.V[0], s.V[1] = p.firstPoint(x.letter)
	if !isCoord(s.V[0]) || !isCoord(s.V[1]) {
		return x.place, api.ErrRange
	}
	for i, n := range x.numbers {
		if x.has[i] == weight {
			s.W = n.n
			if !isWeight(s.W) {
				return n.place, api.ErrRange
			}
			continue
		}
		k := slot(x.has[i])
		s.V[k] = p.coord(n.n, k%2, x.small)
		if !isCoord(s.V[k]) {
			return n.place, api.ErrRange
		}
	}
	p.list = append(p.list, s)
	p.move(s, x.points)
	return 0, api.OK
}

// firstPoint is what the first point of a part is ahead of its numbers.
func (p *pen) firstPoint(x letter) (int64, int64) {
	if x.first == unset {
		return 0, 0
	}
	if x.first == mirrored && p.list[len(p.list)-1].Kind == x.kind {
		v := p.list[len(p.list)-1].V
		k := 2*x.points - 4 // its last point but one is the control point
		return 2*p.stands[0] - v[k], 2*p.stands[1] - v[k+1]
	}
	return p.stands[0], p.stands[1]
}

// coord is a number as an absolute coordinate; axis is 0 of an x, 1 of a y.
func (p *pen) coord(n int64, axis int, small bool) int64 {
	if !small {
		return n
	}
	// a sum that wraps round is far from being a coordinate, too
	return p.stands[axis] + n
}

// move sets where the path stands behind s.
func (p *pen) move(s api.Seg, points int) {
	if s.Kind == api.Close {
		p.stands = p.moved
		return
	}
	p.stands = [2]int64{s.V[2*points-2], s.V[2*points-1]}
	if s.Kind == api.Move {
		p.moved = p.stands
	}
}

func isCoord(n int64) bool { return -api.MaxCoord < n && n < api.MaxCoord }

func isWeight(n int64) bool { return 1 <= n && n <= maxWeight }
