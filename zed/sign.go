package zed

import (
	"gesso/api"
	"gesso/nat"
)

// size is a number's limbs without its sign.
type size []uint64

func (s size) upward() int { return nat.Cmp(s, nil) }

func (s size) downward() int { return -s.upward() }

// signs tells, by Neg, which sign the size makes; 0 has none either way.
func (s size) signs() map[bool]func() int {
	return map[bool]func() int{false: s.upward, true: s.downward}
}

// Sign is -1, 0 or 1: a is below 0, is 0, is above it.
func Sign(a api.Int) int {
	return size(a.N).signs()[a.Neg]()
}
