package cmd

import (
	"strconv"

	"gesso/api"
	"gesso/path"
)

// fields are what of a command is not taken yet.
type fields struct {
	numbers []int64
	parts   []api.Seg
	bad     bool
}

// good tells, behind the taking, whether there was just what the command has.
func (f *fields) good() bool {
	return !f.bad && len(f.numbers) == 0 && len(f.parts) == 0
}

func (f *fields) left() int { return len(f.numbers) }

func (f *fields) number(in span) int64 {
	if len(f.numbers) == 0 {
		f.bad = true
		return 0
	}
	n := f.numbers[0]
	f.numbers = f.numbers[1:]
	f.bad = f.bad || !in.has(n)
	return n
}

func (f *fields) name(of []string) { f.which(of) }

// which takes a number that tells one of the names.
func (f *fields) which(of []string) int64 { return f.number(span{0, int64(len(of)) - 1}) }

func (f *fields) path() {
	f.bad = f.bad || !path.Good(f.parts)
	f.parts = nil
}

func (f *fields) refuse(api.Errno) { f.bad = true }

// A writer writes what it takes from the fields of a good command.
type writer struct {
	fields
	text []byte
}

func (w *writer) number(in span) int64 {
	n := w.fields.number(in)
	w.text = strconv.AppendInt(append(w.text, ' '), n, 10)
	return n
}

func (w *writer) name(of []string) {
	w.text = append(append(w.text, ' '), of[w.which(of)]...)
}

func (w *writer) path() {
	s, _ := path.Text(w.parts)
	w.text = append(append(w.text, ' '), s...)
}
