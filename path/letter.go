package path

import "gesso/api"

// What a part's first point is ahead of its numbers.
const (
	unset    = iota
	standing // where the path stands
	mirrored // the control point ahead, mirrored in where the path stands
)

// weight stands, in what a letter has, for the weight.
const weight = 'w'

// A letter is what a part with that letter has.
type letter struct {
	name   byte   // the great one
	kind   int    // of the part
	points int    // of the part
	has    string // of each number of the letter: which one of V it is, or weight
	first  int    // what the first point is ahead of the numbers
	again  byte   // the letter that further numbers are of; 0, if none can follow
}

// Of each kind the letter that has all its numbers leaves the first point
// unset.
var letters = [...]letter{
	{'M', api.Move, 1, "01", unset, 'L'},
	{'L', api.Line, 1, "01", unset, 'L'},
	{'H', api.Line, 1, "0", standing, 'H'},
	{'V', api.Line, 1, "1", standing, 'V'},
	{'Q', api.Quad, 2, "0123", unset, 'Q'},
	{'C', api.Cubic, 3, "012345", unset, 'C'},
	{'S', api.Cubic, 3, "2345", mirrored, 'S'},
	{'T', api.Quad, 2, "23", mirrored, 'T'},
	{'K', api.Conic, 2, "w0123", unset, 'K'},
	{'Z', api.Close, 0, "", unset, 0},
}

// letterOf is the letter of that name; false, if there is none.
func letterOf(name byte) (letter, bool) {
	for _, x := range letters {
		if x.name == name {
			return x, true
		}
	}
	return letter{}, false
}

// letterOfKind is the letter that has all numbers of a kind; false, if there
// is no such kind.
func letterOfKind(kind int) (letter, bool) {
	for _, x := range letters {
		if x.kind == kind && x.first == unset {
			return x, true
		}
	}
	return letter{}, false
}

// great is c as a great letter, and whether c is a small one.
func great(c byte) (byte, bool) {
	if 'a' <= c && c <= 'z' {
		return c - 'a' + 'A', true
	}
	return c, false
}

// slot is which one of V a number is that is not the weight: x, if even.
func slot(has byte) int { return int(has - '0') }
