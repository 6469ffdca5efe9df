package path

import "gesso/api"

// A number is a number of a part, and its place.
type number struct {
	n     int64
	place int
}

// A part is a letter with its numbers once.
type part struct {
	letter
	small   bool
	place   int // of its letter; of a further one, of its first number
	numbers []number
}

// A reader takes letters and numbers, one by one.
type reader struct {
	list []part
	now  part // the last one that has begun
}

// read is the tokens as parts; or false, and the place of the first one that
// can't stand there, or at, where one lacks.
func read(l []api.Token, at int) ([]part, int, bool) {
	var r reader
	for _, t := range l {
		if place, ok := r.token(t); !ok {
			return nil, place, false
		}
	}
	if r.now.kind == 0 || r.lacks() {
		return nil, at, false
	}
	return r.list, 0, true
}

// token takes a token; false, and the fault's place, if it can't stand there.
func (r *reader) token(t api.Token) (int, bool) {
	switch {
	case t.Kind == api.TkNum:
		return t.At, r.number(number{t.N, t.At})
	case t.Kind == api.TkWord && t.S != "":
		for i := range len(t.S) {
			if place := t.At + i; !r.letter(t.S[i], place) {
				return place, false
			}
		}
		return 0, true
	}
	return t.At, false
}

// lacks tells whether the last part still lacks numbers.
func (r *reader) lacks() bool { return len(r.now.numbers) < len(r.now.has) }

func (r *reader) letter(c byte, place int) bool {
	name, small := great(c)
	x, ok := letterOf(name)
	if !ok || r.lacks() || !r.follows(x.kind) {
		return false
	}
	r.begin(part{letter: x, small: small, place: place})
	return true
}

// follows tells whether a part of that kind can follow the last one.
func (r *reader) follows(kind int) bool {
	if r.now.kind == 0 {
		return kind == api.Move
	}
	return kind != api.Close || r.now.kind != api.Close
}

func (r *reader) number(n number) bool {
	if !r.lacks() {
		x, ok := letterOf(r.now.again)
		if !ok {
			return false
		}
		r.begin(part{letter: x, small: r.now.small, place: n.place})
	}
	r.now.numbers = append(r.now.numbers, n)
	r.keep()
	return true
}

func (r *reader) begin(x part) {
	r.now = x
	r.keep()
}

// keep lists the last part, if it is whole and at most the first one too many:
// nothing hangs on those behind that.
func (r *reader) keep() {
	if !r.lacks() && len(r.list) <= api.MaxSegs {
		r.list = append(r.list, r.now)
	}
}
