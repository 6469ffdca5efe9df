package cmd

import "gesso/api"

// words are the kinds' words.
var words = [...]string{
	api.Canvas:  "canvas",
	api.Matrix:  "matrix",
	api.Push:    "push",
	api.Pop:     "pop",
	api.Rule:    "rule",
	api.Color:   "color",
	api.Tol:     "tol",
	api.Width:   "width",
	api.CapSet:  "cap",
	api.JoinSet: "join",
	api.Miter:   "miter",
	api.Dash:    "dash",
	api.Fill:    "fill",
	api.Stroke:  "stroke",
	api.Clip:    "clip",
}

// kindOf is the kind of the command that begins with t; 0, if none does.
func kindOf(t api.Token) int {
	for kind, w := range words {
		if t.Kind == api.TkWord && t.S == w {
			return kind
		}
	}
	return 0
}

// standsAt tells whether a command of that kind can be the one with i ahead
// of it.
func standsAt(kind, i int) bool { return (kind == api.Canvas) == (i == 0) }

// A span is the least and the greatest one that a number may be.
type span struct{ low, high int64 }

func (s span) has(n int64) bool { return s.low <= n && n <= s.high }

// A content is what stands behind a command's word, in a text or in an
// api.Cmd. It is taken from its beginning on, and takes note itself of what
// can't stand there.
type content interface {
	left() int            // how many things are not taken yet
	number(in span) int64 // what is no number counts as 0
	name(of []string)     // as a number of api.Cmd: which one it is
	path()                // all that is left
	refuse(e api.Errno)   // of the command as a whole
}

// A command takes what it has from a content.
type command func(c content)

// commands are those of all kinds.
func commands() map[int]command {
	side, octet := span{1, api.MaxCanvas}, span{0, 255}
	coord, length := span{1 - api.MaxCoord, api.MaxCoord - 1}, span{0, api.MaxCoord - 1}
	drawing := func(c content) { c.path() }
	return map[int]command{
		api.Canvas:  numbers(side, side, octet, octet, octet),
		api.Matrix:  matrix(span{1 - 1<<31, 1<<31 - 1}, coord),
		api.Push:    numbers(),
		api.Pop:     numbers(),
		api.Rule:    oneOf("nonzero", "evenodd"),
		api.Color:   numbers(octet, octet, octet, octet),
		api.Tol:     numbers(span{1, 1 << 20}),
		api.Width:   numbers(coord),
		api.CapSet:  oneOf("butt", "square", "round"),
		api.JoinSet: oneOf("miter", "bevel", "round"),
		api.Miter:   numbers(span{64, 4096}),
		api.Dash:    dashes(length),
		api.Fill:    drawing,
		api.Stroke:  drawing,
		api.Clip:    drawing,
	}
}

// numbers has one number in each of the spans.
func numbers(in ...span) command {
	return func(c content) {
		for _, s := range in {
			c.number(s)
		}
	}
}

// oneOf has one of the names.
func oneOf(names ...string) command {
	return func(c content) { c.name(names) }
}

// matrix has four numbers in factor, two in coord, and an inverse.
func matrix(factor, coord span) command {
	return func(c content) {
		var n [4]int64
		for i := range n {
			n[i] = c.number(factor)
		}
		c.number(coord)
		c.number(coord)
		// products of numbers in factor are no more than an int64 holds
		if n[0]*n[3] == n[1]*n[2] {
			c.refuse(api.ErrRange)
		}
	}
}

// dashes has nothing; or numbers in that span: an odd count, three or more,
// of which those behind the first one are not all 0.
func dashes(length span) command {
	return func(c content) {
		count := c.left()
		if count > api.MaxDash+1 {
			c.refuse(api.ErrLimit)
		}
		greatest := int64(0)
		for i := range count {
			if n := c.number(length); i > 0 {
				greatest = max(greatest, n)
			}
		}
		switch {
		case count == 0:
		case count == 1, count%2 == 0:
			c.refuse(api.ErrSyntax)
		case greatest == 0:
			c.refuse(api.ErrRange)
		}
	}
}
