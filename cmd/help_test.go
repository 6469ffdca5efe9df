package cmd_test

import (
	"math/big"
	"regexp"
	"slices"
	"strconv"
	"strings"
	"testing"

	"gesso/api"
	"gesso/cmd"
	"gesso/lex"
	"gesso/path"
)

const (
	maxText = 1048576
	maxCmds = 4096
	maxSegs = 4096
	most    = 2147483647 // the greatest coordinate, and the greatest factor
)

// first is a canvas, 17 bytes with its end.
const first = "canvas 2 3 0 0 0\n"

// all are words of all commands, in the order of their kinds.
var all = strings.Fields("canvas matrix push pop rule color tol width cap join miter dash fill stroke clip")

// An answer is what Parse tells of a text.
type answer struct {
	list []api.Cmd
	at   int
	e    api.Errno
}

func script(l ...api.Cmd) answer { return answer{list: l} }

func syntax(at int) answer { return answer{at: at, e: api.ErrSyntax} }

func outside(at int, ahead ...api.Cmd) answer { return answer{ahead, at, api.ErrRange} }

func tooMany(at int, ahead ...api.Cmd) answer { return answer{ahead, at, api.ErrLimit} }

func command(kind, at int, n ...int64) api.Cmd { return api.Cmd{Kind: kind, N: n, At: at} }

func drawing(kind, at int, parts ...api.Seg) api.Cmd {
	return api.Cmd{Kind: kind, Path: parts, At: at}
}

// canvas is what first has.
func canvas() api.Cmd { return command(1, 0, 2, 3, 0, 0, 0) }

func part(kind int, w int64, v ...int64) api.Seg {
	s := api.Seg{Kind: kind, W: w}
	copy(s.V[:], v)
	return s
}

func same(a, b api.Cmd) bool {
	return a.Kind == b.Kind && a.At == b.At && slices.Equal(a.N, b.N) && slices.Equal(a.Path, b.Path)
}

func (a answer) equal(b answer) bool {
	return a.at == b.at && a.e == b.e && slices.EqualFunc(a.list, b.list, same)
}

// text tells a, cut short.
func (a answer) text() string {
	s := strconv.Itoa(a.at) + " " + a.e.Error() + " of " + strconv.Itoa(len(a.list))
	for _, c := range a.list[:min(len(a.list), 8)] {
		s += "; " + strconv.Itoa(c.Kind)
		for _, n := range c.N[:min(len(c.N), 20)] {
			s += " " + strconv.FormatInt(n, 10)
		}
		s += " parts " + strconv.Itoa(len(c.Path)) + " @" + strconv.Itoa(c.At)
	}
	return s
}

func parse(s string) answer {
	list, at, e := cmd.Parse(s)
	return answer{list, at, e}
}

func check(t *testing.T, s string, want answer) {
	t.Helper()
	if got := parse(s); !got.equal(want) {
		t.Errorf("%q: %s, not %s", s[:min(len(s), 200)], got.text(), want.text())
	}
}

// agree tells whether the script in s is what the other implementation tells.
func agree(t *testing.T, s string) answer {
	t.Helper()
	want := wanted(s)
	check(t, s, want)
	return want
}

// The document's words, as patterns: # is a number; words are as they are.
func patterns() map[string]*regexp.Regexp {
	m := map[string]*regexp.Regexp{}
	for word, s := range map[string]string{
		"canvas": "( #){5}",
		"matrix": "( #){6}",
		"push":   "",
		"pop":    "",
		"rule":   " (nonzero|evenodd)",
		"color":  "( #){4}",
		"tol":    " #",
		"width":  " #",
		"cap":    " (butt|square|round)",
		"join":   " (miter|bevel|round)",
		"miter":  " #",
		"dash":   "( #(( #){2})+)?",
	} {
		m[word] = regexp.MustCompile(`\A` + s + `\z`)
	}
	return m
}

var (
	commandPatterns = patterns()
	tokensPattern   = regexp.MustCompile(`\A([ ,\n]|[a-zA-Z]+|-?[0-9]+)*`)
	tokenPattern    = regexp.MustCompile(`[a-zA-Z]+|-?[0-9]+`)
)

// begun tells whether what a command has can begin with s.
func begun(whole *regexp.Regexp, s string) bool {
	for _, word := range strings.Fields("nonzero evenodd butt square round miter bevel") {
		if whole.MatchString(s + " " + word) {
			return true
		}
	}
	for n := range 7 {
		if whole.MatchString(s + strings.Repeat(" #", n)) {
			return true
		}
	}
	return false
}

// A line is what the other implementation has of one: its tokens' texts and
// places, and its end's.
type line struct {
	texts  []string
	places []int
	end    int
	rest   string // behind the first token
}

// linesOf are those of s that have a token.
func linesOf(s string) []line {
	var list []line
	from := 0
	for _, text := range strings.Split(s, "\n") {
		l := line{end: from + len(text)}
		for _, p := range tokenPattern.FindAllStringIndex(text, -1) {
			l.texts = append(l.texts, text[p[0]:p[1]])
			l.places = append(l.places, from+p[0])
			if len(l.texts) == 1 {
				l.rest = text[p[1]:]
			}
		}
		if len(l.texts) > 0 {
			list = append(list, l)
		}
		from = l.end + 1
	}
	return list
}

func isPath(word string) bool { return word == "fill" || word == "stroke" || word == "clip" }

// drawn is what the line's path is, its places those of the text.
func (l line) drawn() ([]api.Seg, int, api.Errno) {
	tokens, _, e := lex.Cut(l.rest)
	if e != api.OK {
		panic("the test itself")
	}
	list, at, e := path.Parse(tokens, len(l.rest))
	return list, at + l.end - len(l.rest), e
}

// fault is the place of the line's first fault of syntax; false, if there is
// none.
func (l line) fault(isFirst bool) (int, bool) {
	word := l.texts[0]
	if slices.Index(all, word) < 0 || (word == "canvas") != isFirst {
		return l.places[0], true
	}
	if isPath(word) {
		_, at, e := l.drawn()
		return at, e == api.ErrSyntax
	}
	whole, s := commandPatterns[word], ""
	for i, text := range l.texts[1:] {
		if strings.Contains("-0123456789", text[:1]) {
			text = "#"
		}
		if s += " " + text; !begun(whole, s) {
			return l.places[1+i], true
		}
	}
	return l.end, !whole.MatchString(s)
}

// ranges are the least and the greatest that a command's numbers may be, in
// their order; the last ones are of all that follow, too.
func ranges(word string) []string {
	return strings.Fields(map[string]string{
		"canvas": "1 8192 1 8192 0 255",
		"matrix": "-2147483647 2147483647",
		"color":  "0 255",
		"tol":    "1 1048576",
		"width":  "-2147483647 2147483647",
		"miter":  "64 4096",
		"dash":   "0 2147483647",
	}[word])
}

func whole(s string) *big.Int {
	v, ok := new(big.Int).SetString(s, 10)
	if !ok {
		panic("the test itself: " + s)
	}
	return v
}

// numbers are what the line's words, or its numbers, come to; with what they
// offend, and where.
func (l line) numbers() ([]int64, int, api.Errno) {
	which := map[string]string{"rule": "nonzero evenodd", "cap": "butt square round", "join": "miter bevel round"}
	word, texts := l.texts[0], l.texts[1:]
	if names, ok := which[word]; ok {
		return []int64{int64(slices.Index(strings.Fields(names), texts[0]))}, 0, api.OK
	}
	if word == "dash" && len(texts) > 17 {
		return nil, l.places[0], api.ErrLimit
	}
	var list []int64
	in := ranges(word)
	for i, text := range texts {
		v, k := whole(text), min(2*i, len(in)-2)
		if v.Cmp(whole(in[k])) < 0 || v.Cmp(whole(in[k+1])) > 0 {
			return nil, l.places[1+i], api.ErrRange
		}
		list = append(list, v.Int64())
	}
	if word == "matrix" {
		left := new(big.Int).Mul(whole(texts[0]), whole(texts[3]))
		if left.Cmp(new(big.Int).Mul(whole(texts[1]), whole(texts[2]))) == 0 {
			return nil, l.places[0], api.ErrRange
		}
	}
	if word == "dash" && len(list) > 0 && slices.Max(list[1:]) == 0 {
		return nil, l.places[0], api.ErrRange
	}
	return list, 0, api.OK
}

// wanted is what the document asks, by another implementation.
func wanted(s string) answer {
	if len(s) > maxText {
		return answer{e: api.ErrLimit}
	}
	if n := len(tokensPattern.FindString(s)); n < len(s) {
		return syntax(n)
	}
	lines := linesOf(s)
	for i, l := range lines {
		if at, wrong := l.fault(i == 0); wrong {
			return syntax(at)
		}
	}
	if len(lines) == 0 {
		return syntax(len(s))
	}
	var a answer
	for i, l := range lines {
		word, at := l.texts[0], l.places[0]
		if i == maxCmds {
			return tooMany(at, a.list...)
		}
		c := api.Cmd{Kind: 1 + slices.Index(all, word), At: at}
		if isPath(word) {
			c.Path, a.at, a.e = l.drawn()
		} else {
			c.N, a.at, a.e = l.numbers()
		}
		if a.e != api.OK {
			return a
		}
		a.at = 0
		a.list = append(a.list, c)
	}
	return a
}

// A dice throws numbers, the same ones in each run.
type dice uint64

func (d *dice) throw(n int) int {
	*d = *d*6364136223846793005 + 1442695040888963407
	return int(uint64(*d) >> 33 % uint64(n))
}

func (d *dice) one(of ...string) string { return of[d.throw(len(of))] }

func text(n int64) string { return strconv.FormatInt(n, 10) }
