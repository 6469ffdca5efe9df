package rat

import (
	"sync"

	"gesso/api"
	"gesso/zed"
)

// An operation tells of two fractions an upper and a lower number of what
// they come to, not in lowest terms. They may be an argument's own memory.
type operation func(a, b api.Rat) (upper, lower api.Int)

// Where each operation stands in the list.
const (
	adding = iota
	taking
	multiplying
	dividing
)

var (
	operationsOnce sync.Once
	operations     []operation
)

func makeOperations() {
	operations = []operation{
		adding:      sumBy(zed.Add),
		taking:      sumBy(zed.Sub),
		multiplying: productBy(parts),
		dividing:    productBy(turned),
	}
}

// sumBy brings both over one lower number, and joins their upper ones.
func sumBy(join func(p, r api.Int) api.Int) operation {
	return func(a, b api.Rat) (upper, lower api.Int) {
		p, q := parts(a)
		r, s := parts(b)
		if zed.Cmp(q, s) == 0 {
			return join(p, r), q
		}
		return join(zed.Mul(p, s), zed.Mul(r, q)), zed.Mul(q, s)
	}
}

// productBy takes the upper numbers, and the lower ones, by each other: of
// the second fraction those that second tells.
func productBy(second func(b api.Rat) (upper, lower api.Int)) operation {
	return func(a, b api.Rat) (upper, lower api.Int) {
		p, q := parts(a)
		r, s := second(b)
		return zed.Mul(p, r), zed.Mul(q, s)
	}
}

// turned is b upside down: its lower number is 0, if b is.
func turned(b api.Rat) (upper, lower api.Int) {
	p, q := parts(b)
	return q, p
}

// tell is what the operation at that place comes to: ErrZero, if its lower
// number is 0.
func tell(place int, a, b api.Rat) (api.Rat, api.Errno) {
	operationsOnce.Do(makeOperations)
	return Make(operations[place](a, b))
}

// Add is a and b together.
func Add(a, b api.Rat) api.Rat {
	sum, _ := tell(adding, a, b)
	return sum
}

// Sub is a less b.
func Sub(a, b api.Rat) api.Rat {
	rest, _ := tell(taking, a, b)
	return rest
}

// Mul is a times b.
func Mul(a, b api.Rat) api.Rat {
	product, _ := tell(multiplying, a, b)
	return product
}

// Div is a by b: ErrZero, if b is 0.
func Div(a, b api.Rat) (api.Rat, api.Errno) {
	return tell(dividing, a, b)
}
