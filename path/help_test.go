package path_test

import (
	"math/big"
	"regexp"
	"slices"
	"strconv"
	"strings"
	"testing"

	"gesso/api"
	"gesso/lex"
	"gesso/path"
)

const (
	most    = 2147483647 // the greatest coordinate
	maxSegs = 4096
)

// An answer is what Parse tells of tokens.
type answer struct {
	list []api.Seg
	at   int
	e    api.Errno
}

func parts(l ...api.Seg) answer { return answer{list: l} }

func syntax(at int) answer { return answer{at: at, e: api.ErrSyntax} }

func outside(at int) answer { return answer{at: at, e: api.ErrRange} }

func tooMany(at int) answer { return answer{at: at, e: api.ErrLimit} }

func seg(kind int, w int64, v ...int64) api.Seg {
	s := api.Seg{Kind: kind, W: w}
	copy(s.V[:], v)
	return s
}

func move(x, y int64) api.Seg { return seg(1, 0, x, y) }

func line(x, y int64) api.Seg { return seg(2, 0, x, y) }

func quad(v ...int64) api.Seg { return seg(3, 0, v...) }

func cubic(v ...int64) api.Seg { return seg(4, 0, v...) }

func conic(w int64, v ...int64) api.Seg { return seg(5, w, v...) }

func done() api.Seg { return seg(6, 0) }

func (a answer) equal(b answer) bool {
	return a.at == b.at && a.e == b.e && slices.Equal(a.list, b.list)
}

// text tells a, cut short.
func (a answer) text() string {
	s := strconv.Itoa(a.at) + " " + a.e.Error() + " of " + strconv.Itoa(len(a.list))
	for _, x := range a.list[:min(len(a.list), 12)] {
		s += "; " + strconv.Itoa(x.Kind)
		for _, v := range x.V {
			s += " " + strconv.FormatInt(v, 10)
		}
		s += " w" + strconv.FormatInt(x.W, 10)
	}
	return s
}

// told tells tokens, cut short.
func told(l []api.Token) string {
	var s []string
	for _, t := range l[:min(len(l), 40)] {
		s = append(s, strconv.Itoa(t.Kind)+strconv.Quote(t.S[:min(len(t.S), 20)])+strconv.FormatInt(t.N, 10)+"@"+strconv.Itoa(t.At))
	}
	return strings.Join(s, " ")
}

func parse(l []api.Token, at int) answer {
	list, place, e := path.Parse(l, at)
	return answer{list, place, e}
}

// cut is a text as tokens.
func cut(s string) []api.Token {
	l, _, e := lex.Cut(s)
	if e != api.OK {
		panic("the test itself: " + s[:min(len(s), 80)])
	}
	return l
}

func checkTokens(t *testing.T, l []api.Token, at int, want answer) {
	t.Helper()
	if got := parse(l, at); !got.equal(want) {
		t.Errorf("%s, at %d: %s, not %s", told(l), at, got.text(), want.text())
	}
}

// check tells whether the path in s is what is wanted.
func check(t *testing.T, s string, want answer) {
	t.Helper()
	if got := parse(cut(s), len(s)); !got.equal(want) {
		t.Errorf("%q: %s, not %s", s[:min(len(s), 120)], got.text(), want.text())
	}
}

// agree tells whether the path in s is what the other implementation tells.
func agree(t *testing.T, s string) answer {
	t.Helper()
	want := wanted(cut(s), len(s))
	check(t, s, want)
	return want
}

// A symbol is a letter, or a number ('#'), or what can stand nowhere ('!').
type symbol struct {
	c  byte
	n  int64
	at int
}

func symbols(l []api.Token) []symbol {
	var list []symbol
	for _, t := range l {
		switch {
		case t.Kind == 2:
			list = append(list, symbol{'#', t.N, t.At})
		case t.Kind != 1 || t.S == "":
			list = append(list, symbol{'!', 0, t.At})
		default:
			for i, c := range []byte(t.S) {
				if !strings.Contains("MLHVQCSTKZmlhvqcstkz", string(rune(c))) {
					c = '!'
				}
				list = append(list, symbol{c, 0, t.At + i})
			}
		}
	}
	return list
}

// The document's words, as a pattern of symbols.
const somePart = `([MmLlTt](##)+|[HhVv]#+|[QqSs](####)+|[Cc](######)+|[Kk](#####)+)`

var pathPattern = regexp.MustCompile(`\A[Mm](##)+` + somePart + `*([Zz]` + somePart + `+)*[Zz]?\z`)

func whole(s string) bool { return pathPattern.MatchString(s) }

// begun tells whether a path can begin with s.
func begun(s string) bool {
	for n := range 7 {
		if whole(s + strings.Repeat("#", n)) {
			return true
		}
	}
	return false
}

// fault is the place of the first fault of syntax; false, if there is none.
func fault(list []symbol, at int) (int, bool) {
	s := ""
	for _, x := range list {
		s += string(rune(x.c))
	}
	if whole(s) {
		return 0, false
	}
	for i := range list {
		if !begun(s[:i+1]) {
			return list[i].at, true
		}
	}
	return at, true
}

// A drawing is a path as far as it is drawn, by another implementation.
type drawing struct {
	list           []api.Seg
	x, y, mx, my   int64
	cubicX, cubicY int64 // what S has mirrored
	quadX, quadY   int64 // what T has mirrored
	at             int
	e              api.Errno
}

// within is n and what is ahead of it; or a range error at that place, if
// none was ahead.
func (d *drawing) within(at int, ahead, n int64) int64 {
	v := new(big.Int).Add(big.NewInt(ahead), big.NewInt(n))
	if v.CmpAbs(big.NewInt(most)) <= 0 {
		return v.Int64()
	}
	if d.e == api.OK {
		d.at, d.e = at, api.ErrRange
	}
	return 0
}

// point is two numbers as a point.
func (d *drawing) point(small bool, l []symbol) (int64, int64) {
	if small {
		return d.within(l[0].at, d.x, l[0].n), d.within(l[1].at, d.y, l[1].n)
	}
	return d.within(l[0].at, 0, l[0].n), d.within(l[1].at, 0, l[1].n)
}

func (d *drawing) add(s api.Seg, x, y int64) {
	d.list = append(d.list, s)
	d.x, d.y = x, y
	d.cubicX, d.cubicY, d.quadX, d.quadY = x, y, x, y
}

// mirrored is a point, mirrored in where the path stands.
func (d *drawing) mirrored(at int, x, y int64) (int64, int64) {
	return d.within(at, 2*d.x, -x), d.within(at, 2*d.y, -y)
}

func (d *drawing) addQuad(small bool, x1, y1 int64, l []symbol) {
	x, y := d.point(small, l)
	d.add(quad(x1, y1, x, y), x, y)
	d.quadX, d.quadY = x1, y1
}

func (d *drawing) addCubic(small bool, x1, y1 int64, l []symbol) {
	x2, y2 := d.point(small, l)
	x, y := d.point(small, l[2:])
	d.add(cubic(x1, y1, x2, y2, x, y), x, y)
	d.cubicX, d.cubicY = x2, y2
}

func (d *drawing) addConic(small bool, l []symbol) {
	w := l[0].n
	if w < 1 || w > 4096 {
		d.at, d.e = l[0].at, api.ErrRange
		return
	}
	x1, y1 := d.point(small, l[1:])
	x, y := d.point(small, l[3:])
	d.add(conic(w, x1, y1, x, y), x, y)
}

func (d *drawing) curve(c byte, small bool, at int, l []symbol) {
	switch c {
	case 'Q':
		x1, y1 := d.point(small, l)
		d.addQuad(small, x1, y1, l[2:])
	case 'T':
		x1, y1 := d.mirrored(at, d.quadX, d.quadY)
		d.addQuad(small, x1, y1, l)
	case 'C':
		x1, y1 := d.point(small, l)
		d.addCubic(small, x1, y1, l[2:])
	case 'S':
		x1, y1 := d.mirrored(at, d.cubicX, d.cubicY)
		d.addCubic(small, x1, y1, l)
	case 'K':
		d.addConic(small, l)
	}
}

// part draws a part of that great letter.
func (d *drawing) part(c byte, small bool, at int, l []symbol) {
	if len(d.list) == maxSegs {
		d.at, d.e = at, api.ErrLimit
		return
	}
	x, y := d.x, d.y
	switch c {
	case 'M':
		x, y = d.point(small, l)
		d.add(move(x, y), x, y)
		d.mx, d.my = x, y
	case 'L':
		x, y = d.point(small, l)
		d.add(line(x, y), x, y)
	case 'H':
		x, _ = d.point(small, []symbol{l[0], {'#', 0, 0}})
		d.add(line(x, y), x, y)
	case 'V':
		_, y = d.point(small, []symbol{{'#', 0, 0}, l[0]})
		d.add(line(x, y), x, y)
	case 'Z':
		d.add(done(), d.mx, d.my)
	default:
		d.curve(c, small, at, l)
	}
}

// wanted is what the document asks, by another implementation.
func wanted(l []api.Token, at int) answer {
	list := symbols(l)
	if place, wrong := fault(list, at); wrong {
		return syntax(place)
	}
	var d drawing
	name := byte('M')
	for len(list) > 0 {
		ahead := list[0]
		switch {
		case ahead.c != '#':
			name, list = ahead.c, list[1:]
		case name == 'M' || name == 'm':
			name--
		}
		great := strings.ToUpper(string(rune(name)))[0]
		n := map[byte]int{'M': 2, 'L': 2, 'H': 1, 'V': 1, 'Q': 4, 'C': 6, 'S': 4, 'T': 2, 'K': 5, 'Z': 0}[great]
		d.part(great, great != name, ahead.at, list[:n])
		if d.e != api.OK {
			return answer{at: d.at, e: d.e}
		}
		list = list[n:]
	}
	return parts(d.list...)
}

// A dice throws numbers, the same ones in each run.
type dice uint64

func (d *dice) throw(n int) int {
	*d = *d*6364136223846793005 + 1442695040888963407
	return int(uint64(*d) >> 33 % uint64(n))
}

func text(n int) string { return strconv.Itoa(n) }
