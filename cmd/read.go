package cmd

import (
	"slices"

	"gesso/api"
	"gesso/path"
)

// A reader takes a command from the tokens of a line.
type reader struct {
	cmd   api.Cmd
	rest  []api.Token // those behind the word that are not taken yet
	end   int         // the place of what lacks
	e     api.Errno   // what the command offends, if anything
	place int         // of that
}

// read is the commands of all lines, each with what it offends but syntax; or
// false, and the place of the first error of syntax. The text ends at at.
func read(l []api.Token, at int) ([]reader, int, bool) {
	all := commands()
	var list []reader
	for len(l) > 0 {
		line, end := l, at
		l = nil
		if n := slices.IndexFunc(line, isEnd); n >= 0 {
			line, end, l = line[:n], line[n].At, line[n+1:]
		}
		if len(line) == 0 {
			continue
		}
		r := readLine(all, line, end, len(list))
		if r.e == api.ErrSyntax {
			return nil, r.place, false
		}
		// nothing hangs on those behind the first one too many
		if len(list) <= api.MaxCmds {
			list = append(list, r)
		}
	}
	return list, at, len(list) > 0
}

func isEnd(t api.Token) bool { return t.Kind == api.TkEnd }

// readLine is the command of a line that is not empty and ends at end; with
// ahead commands ahead of it.
func readLine(all map[int]command, line []api.Token, end, ahead int) reader {
	word := line[0]
	r := reader{cmd: api.Cmd{Kind: kindOf(word), At: word.At}, rest: line[1:], end: end}
	take, ok := all[r.cmd.Kind]
	if !ok || !standsAt(r.cmd.Kind, ahead) {
		r.note(api.ErrSyntax, word.At)
		return r
	}
	take(&r)
	if len(r.rest) > 0 {
		r.note(api.ErrSyntax, r.rest[0].At)
	}
	return r
}

// note keeps the first error; but one of syntax goes ahead of others.
func (r *reader) note(e api.Errno, place int) {
	if r.e == api.OK || e == api.ErrSyntax && r.e != api.ErrSyntax {
		r.e, r.place = e, place
	}
}

// next takes a token of that kind; false, if there is none.
func (r *reader) next(kind int) (api.Token, bool) {
	if len(r.rest) == 0 {
		r.note(api.ErrSyntax, r.end)
		return api.Token{}, false
	}
	t := r.rest[0]
	if t.Kind != kind {
		r.note(api.ErrSyntax, t.At)
		return api.Token{}, false
	}
	r.rest = r.rest[1:]
	return t, true
}

func (r *reader) left() int { return len(r.rest) }

func (r *reader) number(in span) int64 {
	t, ok := r.next(api.TkNum)
	if ok && !in.has(t.N) {
		r.note(api.ErrRange, t.At)
	}
	r.cmd.N = append(r.cmd.N, t.N)
	return t.N
}

func (r *reader) name(of []string) {
	t, ok := r.next(api.TkWord)
	which := slices.Index(of, t.S)
	if ok && which < 0 {
		r.note(api.ErrSyntax, t.At)
	}
	r.cmd.N = append(r.cmd.N, int64(which))
}

func (r *reader) path() {
	list, place, e := path.Parse(r.rest, r.end)
	if e != api.OK {
		r.note(e, place)
	}
	r.cmd.Path, r.rest = list, nil
}

func (r *reader) refuse(e api.Errno) {
	if e == api.ErrSyntax {
		r.note(e, r.end)
		return
	}
	r.note(e, r.cmd.At)
}
