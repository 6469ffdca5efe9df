package cmd_test

import (
	"slices"
	"strings"
	"testing"
	"unsafe"

	"gesso/api"
	"gesso/cmd"
)

// The rules that hold everywhere: what is handed in stays as it is and is not
// kept, what is told is new memory, and nothing is kept from call to call.

func memoryTexts() []string {
	return []string{
		"", "\n", "push", first, first + "push", strings.Join(samples(), "\n"), first + "dash 1 2 3\ndash 1 2 3\ndash\ndash 1 2 3 4 5",
		first + "fill M1 2L3 4\nfill M1 2L3 4\nclip m1 2 3 4z", first + "tol 0", first + "push\npush\ncolor 0 0 0 256\npush", first + "jump", ";",
		first + strings.Repeat("push\n", maxCmds), first + strings.Repeat("color 1 2 3 4\n", maxCmds), first + "fill M1 2\nmatrix 0 0 0 0 0 0", first + "dash" + strings.Repeat(" 1", 19),
	}
}

// deep is a copy of l that shares nothing with it.
func deep(l []api.Cmd) []api.Cmd {
	l = slices.Clone(l)
	for i := range l {
		l[i].N, l[i].Path = slices.Clone(l[i].N), slices.Clone(l[i].Path)
	}
	return l
}

// spoil overwrites c's lists, their spare room too.
func spoil(c *api.Cmd) {
	for i := range c.N[:cap(c.N)] {
		c.N[:cap(c.N)][i] = -77
	}
	for i := range c.Path[:cap(c.Path)] {
		c.Path[:cap(c.Path)][i] = part(9, 9, 9, 9, 9, 9, 9, 9)
	}
}

// No two lists of one answer share memory.
func TestListsOfOneAnswerShareNothing(t *testing.T) {
	for _, s := range memoryTexts() {
		a := parse(s)
		want := deep(a.list)
		for i := range min(len(a.list), 40) {
			spoil(&a.list[i])
			a.list[i] = want[i]
			if !script(a.list...).equal(script(want...)) {
				t.Errorf("%q: the lists of command %d are others', too", s[:min(len(s), 80)], i)
			}
		}
	}
}

func TestAnswersShareNothing(t *testing.T) {
	for _, s := range memoryTexts() {
		a, b := parse(s), parse(s)
		want := answer{deep(b.list), b.at, b.e}
		for i := range a.list[:cap(a.list)] {
			spoil(&a.list[:cap(a.list)][i])
			a.list[:cap(a.list)][i] = api.Cmd{Kind: 99}
		}
		if !b.equal(want) {
			t.Errorf("%q: two answers share a list", s[:min(len(s), 80)])
		}
		check(t, s, want)
		x, _ := cmd.Text(b.list)
		y, _ := cmd.Text(b.list)
		kept := strings.Clone(y)
		for i := range len(x) {
			unsafe.Slice(unsafe.StringData(x), len(x))[i] = '#'
		}
		if z, _ := cmd.Text(b.list); y != kept || z != kept {
			t.Errorf("%q: two texts share memory", s[:min(len(s), 80)])
		}
	}
}

// The answer does not hang on the text any more.
func TestTextIsNotKept(t *testing.T) {
	for _, s := range memoryTexts() {
		bytes := []byte(s)
		a := parse(unsafe.String(unsafe.SliceData(bytes), len(bytes)))
		if string(bytes) != s {
			t.Errorf("%q: the text is changed", s[:min(len(s), 80)])
		}
		for i := range bytes {
			bytes[i] = '#'
		}
		check(t, s, a)
	}
}

// Lists stay as they are, their spare room too, be they good or not; and the
// text does not hang on them any more.
func TestCommandsStayAsTheyAre(t *testing.T) {
	for n := range 60 {
		whole := append(goodOnes(), api.Cmd{Kind: 41}, api.Cmd{Kind: 42})
		for i := range whole {
			whole[i].N = append(whole[i].N, 43, 44)[:len(whole[i].N)]
			whole[i].Path = append(whole[i].Path, part(45, 46))[:len(whole[i].Path)]
		}
		l := whole[:15]
		bad := n%2 == 1
		if bad {
			l[n%15].Kind += 30
		}
		ahead := deep(whole)
		for i := range whole {
			ahead[i].N = slices.Clone(whole[i].N[:cap(whole[i].N)])
			ahead[i].Path = slices.Clone(whole[i].Path[:cap(whole[i].Path)])
		}
		good := cmd.Good(l)
		s, e := cmd.Text(l)
		for i, c := range whole {
			c.N, c.Path = c.N[:cap(c.N)], c.Path[:cap(c.Path)]
			if !same(c, ahead[i]) {
				t.Error(n, i, "a command is changed")
			}
		}
		if good == bad || good != (e == api.OK) {
			t.Error(n, good, e)
		}
		kept := strings.Clone(s)
		for i := range whole {
			spoil(&whole[i])
			whole[i] = api.Cmd{}
		}
		if s != kept {
			t.Error(n, "the text shares memory with the commands")
		}
	}
}

// What is told hangs on what is handed in alone, not on the calls ahead.
func TestCallsAheadChangeNothing(t *testing.T) {
	for _, s := range memoryTexts() {
		want := parse(s)
		text, e := cmd.Text(want.list)
		for _, ahead := range memoryTexts() {
			x := parse(ahead)
			cmd.Text(x.list)
			cmd.Good(x.list)
			check(t, s, want)
			if again, f := cmd.Text(want.list); again != text || e != f {
				t.Errorf("%q: another text", s[:min(len(s), 80)])
			}
		}
	}
}
