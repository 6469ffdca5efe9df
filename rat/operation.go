package rat

import (
	"strings"
	"sync"

	"gesso/api"
	"gesso/zed"
)

// signs are the operations' signs, each at its operation's place in the list.
const signs = "+-*/"

// An operation tells what two fractions come to: ErrZero, if that is by 0.
type operation func(a, b api.Rat) (api.Rat, api.Errno)

var (
	operationsOnce sync.Once
	operations     []operation
)

func makeOperations() {
	operations = []operation{made(sum), made(difference), made(product), made(quotient)}
}

// made is the operation that makes a fraction of what reckon tells.
func made(reckon func(a, b api.Rat) (upper, lower api.Int)) operation {
	return func(a, b api.Rat) (api.Rat, api.Errno) {
		return Make(reckon(a, b))
	}
}

// Operate is what a and b come to by the operation of that sign, told from
// the list: ErrArg, unless the sign is + - * or /, ErrZero, if it is / and b
// is 0.
func Operate(sign byte, a, b api.Rat) (api.Rat, api.Errno) {
	place := strings.IndexByte(signs, sign)
	if place < 0 {
		return api.Rat{}, api.ErrArg
	}
	operationsOnce.Do(makeOperations)
	return operations[place](a, b)
}

// Add is a and b together. It and the three below do without the list, so
// that they hang on what they are given alone.
func Add(a, b api.Rat) api.Rat {
	return by(sum(a, b))
}

// Sub is a less b.
func Sub(a, b api.Rat) api.Rat {
	return by(difference(a, b))
}

// Mul is a times b.
func Mul(a, b api.Rat) api.Rat {
	return by(product(a, b))
}

// Div is a by b: ErrZero, if b is 0.
func Div(a, b api.Rat) (api.Rat, api.Errno) {
	return Make(quotient(a, b))
}

// sum is the upper number and the lower one of a and b together. It and the
// three below tell no lowest terms, and maybe an argument's own memory.
func sum(a, b api.Rat) (upper, lower api.Int) {
	p, r, lower := alike(a, b)
	return zed.Add(p, r), lower
}

// difference is a less b.
func difference(a, b api.Rat) (upper, lower api.Int) {
	p, r, lower := alike(a, b)
	return zed.Sub(p, r), lower
}

// alike is the upper numbers of both over one lower number.
func alike(a, b api.Rat) (first, second, lower api.Int) {
	p, q := parts(a)
	r, s := parts(b)
	if zed.Cmp(q, s) == 0 {
		return p, r, q
	}
	return zed.Mul(p, s), zed.Mul(r, q), zed.Mul(q, s)
}

// product is a times b.
func product(a, b api.Rat) (upper, lower api.Int) {
	p, q := parts(a)
	r, s := parts(b)
	return zed.Mul(p, r), zed.Mul(q, s)
}

// quotient is a by b: its lower number is 0, if b is.
func quotient(a, b api.Rat) (upper, lower api.Int) {
	p, q := parts(a)
	r, s := parts(b)
	return zed.Mul(p, s), zed.Mul(q, r)
}
