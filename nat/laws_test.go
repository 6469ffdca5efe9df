package nat_test

import (
	"slices"
	"testing"

	"gesso/api"
	"gesso/nat"
)

// P1.4, and the rules that hold everywhere.

func TestQuotientTimesDivisorAndRest(t *testing.T) {
	for i, x := range pairs() {
		a, b := x[0], x[1]
		q, r, e := nat.DivMod(a, b)
		if e != api.OK {
			continue
		}
		if back := nat.Add(nat.Mul(q, b), r); nat.Cmp(back, a) != 0 || nat.Cmp(r, b) >= 0 {
			t.Error(i, q, r)
		}
	}
}

func TestParseOfText(t *testing.T) {
	d := dice(5)
	l := numbers()
	for n := 220; n < 1030; n += 30 {
		l = append(l, d.number(n))
	}
	for i, a := range l {
		s := nat.Text(a)
		b, e := nat.Parse(s)
		if e != api.OK || nat.Cmp(a, b) != 0 || !nat.Good(b) || nat.Text(b) != s {
			t.Error(i, len(s), e)
		}
	}
	if s := nat.Text(mustShl(t, []uint64{1}, 66500)); len(s) <= 20000 {
		t.Error("the test itself")
	} else if b, e := nat.Parse(s); len(b) != 0 || e != api.ErrLong {
		t.Error(e)
	}
}

// roomy is a with spare room behind it, in which nothing may be written.
func roomy(a []uint64) []uint64 {
	z := make([]uint64, len(a), len(a)+9)
	copy(z, a)
	for i := len(a); i < cap(z); i++ {
		z[:cap(z)][i] = uint64(i)
	}
	return z
}

func whole(a []uint64) []uint64 {
	return a[:cap(a)]
}

func TestArgumentsAreNotChanged(t *testing.T) {
	for i, x := range pairs() {
		a, b := roomy(x[0]), roomy(x[1])
		first, second := slices.Clone(whole(a)), slices.Clone(whole(b))
		answers(a, b)
		if !slices.Equal(whole(a), first) || !slices.Equal(whole(b), second) {
			t.Error(i)
		}
	}
}

func TestAnswersAreNewMemory(t *testing.T) {
	for i, x := range pairs() {
		a, b := roomy(x[0]), roomy(x[1])
		first, second := slices.Clone(whole(a)), slices.Clone(whole(b))
		got, _ := answers(a, b)
		var kept [][]uint64
		for _, z := range got {
			kept = append(kept, slices.Clone(z))
		}
		for j, z := range got {
			if !slices.Equal(z, kept[j]) {
				t.Error(i, j, "shares memory with an answer ahead")
			}
			for k := range whole(z) {
				whole(z)[k] = 0xbad
			}
		}
		if !slices.Equal(whole(a), first) || !slices.Equal(whole(b), second) {
			t.Error(i, "shares memory with an argument")
		}
		again, _ := answers(a, b)
		for j, z := range again {
			if !slices.Equal(z, kept[j]) {
				t.Error(i, j, "hangs on an answer that was told")
			}
		}
	}
}
