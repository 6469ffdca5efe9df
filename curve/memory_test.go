package curve_test

import (
	"slices"
	"testing"

	"gesso/api"
	"gesso/curve"
	"gesso/mat"
)

// The rules that hold everywhere: what is handed in stays as it is, what is
// told is new memory, and nothing is kept from call to call.

// roomy is a with spare room behind both lists, in which nothing may be
// written.
func roomy(a api.Rat) api.Rat {
	for _, l := range []*[]uint64{&a.P.N, &a.Q} {
		*l = append(slices.Clone(*l), 41, 42, 43)
		*l = (*l)[:len(*l)-3]
	}
	return a
}

func roomyPoint(p api.Pt) api.Pt { return api.Pt{X: roomy(p.X), Y: roomy(p.Y)} }

func roomyMap(m api.Mat) api.Mat {
	return api.Mat{A: roomy(m.A), B: roomy(m.B), C: roomy(m.C), D: roomy(m.D), E: roomy(m.E), F: roomy(m.F)}
}

// roomyList is l with spare room behind each list of limbs, and with control
// points in its own spare room.
func roomyList(l []api.Hom) []api.Hom {
	var all []api.Hom
	for _, h := range append(slices.Clone(l), plain(3)...) {
		all = append(all, api.Hom{X: roomy(h.X), Y: roomy(h.Y), W: roomy(h.W)})
	}
	return all[:len(l)]
}

// numbersOf are all numbers of l, those in its spare room too.
func numbersOf(l []api.Hom) []api.Rat {
	var all []api.Rat
	for _, h := range l[:cap(l)] {
		all = append(all, h.X, h.Y, h.W)
	}
	return all
}

// lists are the lists of which l are made.
func lists(l ...api.Rat) [][]uint64 {
	var all [][]uint64
	for _, a := range l {
		all = append(all, a.P.N, a.Q)
	}
	return all
}

// An order is what is handed to the calls.
type order struct {
	from api.Pt
	s    api.Seg
	m    api.Mat
	list []api.Hom
	t    api.Rat
}

// numbers are all that o has.
func (o order) numbers() []api.Rat {
	m := o.m
	return append([]api.Rat{o.from.X, o.from.Y, m.A, m.B, m.C, m.D, m.E, m.F, o.t}, numbersOf(o.list)...)
}

// room is all that stands in the lists of o, spare room and all.
func (o order) room() []uint64 {
	var all []uint64
	for _, l := range lists(o.numbers()...) {
		all = append(append(all, uint64(len(l))), l[:cap(l)]...)
	}
	return all
}

// told are all lists that calls tell of o; the lists of control points
// themselves are filled with others when they are read.
func (o order) told() [][]uint64 {
	var all []api.Rat
	for range 2 {
		l, _ := curve.Of(o.from, o.s, o.m)
		for _, h := range l {
			all = append(all, h.X, h.Y, h.W)
		}
		p, _ := curve.At(o.list, o.t)
		q, _ := curve.At(l, o.t)
		all = append(all, p.X, p.Y, q.X, q.Y)
		for _, h := range o.list {
			p, _ := curve.Point(h)
			all = append(all, p.X, p.Y)
		}
		for i := range l[:cap(l)] {
			l[:cap(l)][i] = api.Hom{X: api.Rat{P: api.Int{N: []uint64{9}}}}
		}
	}
	return lists(all...)
}

func checkMemory(t *testing.T, o order) {
	t.Helper()
	ahead := o.room()
	curve.Good(o.list)
	got := o.told()
	var kept [][]uint64
	for _, g := range got {
		kept = append(kept, slices.Clone(g))
	}
	for i, g := range got {
		if !slices.Equal(g, kept[i]) {
			t.Error(o, i, "shares memory with a list ahead")
		}
		for k := range g[:cap(g)] {
			g[:cap(g)][k] = 0xbad
		}
	}
	if !slices.Equal(o.room(), ahead) {
		t.Error(o, "an argument is changed, or shared")
	}
	if !slices.EqualFunc(o.told(), kept, slices.Equal[[]uint64]) {
		t.Error(o, "hangs on an answer that was told")
	}
}

func TestArgumentsAndAnswersShareNothing(t *testing.T) {
	d := dice(5)
	for i, m := range maps() {
		for k, c := range curves() {
			from := of(&d, places())
			s := api.Seg{Kind: of(&d, append(curveKinds, api.Move)), W: of(&d, append(weights, 0))}
			for n := range s.V {
				s.V[n] = of(&d, coords)
			}
			v := fraction(of(&d, append(shares(), noShares()...)))
			checkMemory(t, order{roomyPoint(point(from[0], from[1])), s, roomyMap(givenMap(m)), roomyList(given(c)), roomy(v)})
			checkMemory(t, order{roomyPoint(shaped(point(from[0], from[1]), i)), s, roomyMap(shapedMap(givenMap(m), k)), roomyList(shapedList(given(c), i+k)), roomy(formed(v, i))})
		}
	}
	for _, l := range [][]api.Hom{nil, plain(1), plain(5), {{}, {}}} {
		checkMemory(t, order{list: roomyList(l), m: mat.One()})
	}
}

// One list may stand in all numbers, and one control point at all places.
func TestOneArgumentManyTimes(t *testing.T) {
	for _, v := range numbers("0 1 1/2 18446744073709551615/18446744073709551616 -22/7 1e60") {
		for _, a := range forms(fraction(v)) {
			a = roomy(a)
			h := api.Hom{X: a, Y: a, W: a}
			for _, kind := range curveKinds {
				checkMemory(t, order{api.Pt{X: a, Y: a}, api.Seg{Kind: kind, V: [6]int64{1, 2, 64, -1}, W: 64}, api.Mat{A: a, B: a, C: a, D: a, E: a, F: a}, []api.Hom{h, h, h}, a})
			}
		}
	}
}
