package lex

import "iter"

// A kind tells what a rune of the text is for.
type kind int

const (
	other kind = iota
	parting
	letter
	digit
	minus
	end
)

// kindOf takes a rune whole: the low byte of one beyond 7f may look like a
// letter's.
func kindOf(r rune) kind {
	switch {
	case r == ' ', r == ',':
		return parting
	case 'a' <= r && r <= 'z', 'A' <= r && r <= 'Z':
		return letter
	case '0' <= r && r <= '9':
		return digit
	case r == '-':
		return minus
	case r == '\n':
		return end
	}
	return other
}

// firstOf is what a piece begins with; a byte does for its rune, since those
// beyond 7f are of no token, as runes and as bytes.
func firstOf(piece string) kind { return kindOf(rune(piece[0])) }

// goesOn tells whether what is of kind next stays in the piece of what is
// ahead of it.
func goesOn(ahead, next kind) bool {
	return next == letter && ahead == letter || next == digit && (ahead == digit || ahead == minus)
}

// pieces cuts s wherever a token begins or ends, and at each blank, comma and
// rune that no token has; each piece comes with its place, none is empty.
func pieces(s string) iter.Seq2[int, string] {
	return func(yield func(int, string) bool) {
		from, ahead := 0, other
		for at, r := range s {
			next := kindOf(r)
			if at > from && !goesOn(ahead, next) {
				if !yield(from, s[from:at]) {
					return
				}
				from = at
			}
			ahead = next
		}
		if from < len(s) {
			yield(from, s[from:])
		}
	}
}
