package nat

import (
	"sync"

	"gesso/api"
)

const (
	limbDigits = 19    // 10 to this is the highest power of ten in a limb
	shortLimbs = 16    // up to here limb by limb is quicker than by halves
	mostDigits = 20000 // what Parse takes
)

var (
	tensOnce sync.Once
	tens     [limbDigits + 1]uint64
)

// TenTo is 10 to the k, told from the table: ErrArg, unless k is from 0 to 19
// (so that it is a limb's).
func TenTo(k int) ([]uint64, api.Errno) {
	if k < 0 || k > limbDigits {
		return nil, api.ErrArg
	}
	tensOnce.Do(fillTens)
	return Of(tens[k]), api.OK
}

func fillTens() {
	for k := range tens {
		tens[k] = powerOfTen(k)
	}
}

// powerOfTen is 10 to the k, k from 0 to limbDigits. Text and Parse reckon by
// it and not by the table, so that they hang on what they are given alone.
func powerOfTen(k int) uint64 {
	power := uint64(1)
	for range k {
		power *= 10
	}
	return power
}

// Text is a's decimal digits, no noughts ahead.
func Text(a []uint64) string {
	a = trim(a)
	if len(a) == 0 {
		return "0"
	}
	// 0.30103 is a little above the digits that a bit makes
	digits := make([]byte, Bits(a)*30103/100000+1)
	write(digits, a, squaresOfTen(len(a)))
	first := 0
	for digits[first] == '0' {
		first++
	}
	return string(digits[first:])
}

// squaresOfTen are 10 to the limbDigits, its square, the square of that ..,
// till the square of the last one is above all numbers of n limbs.
func squaresOfTen(n int) [][]uint64 {
	if n <= shortLimbs {
		return nil
	}
	top := Of(powerOfTen(limbDigits))
	l := [][]uint64{top}
	for 2*len(top)-1 <= n {
		top = Mul(top, top)
		l = append(l, top)
	}
	return l
}

// write fills dst with a's digits, noughts ahead; dst has room for them, and
// a is below the square of the last one of squares. Where dst is longer than
// that one's noughts, a is cut there, and each part written likewise.
func write(dst []byte, a []uint64, squares [][]uint64) {
	if len(a) <= shortLimbs {
		writeLimbs(dst, fresh(a))
		return
	}
	last := len(squares) - 1
	cut := len(dst) - limbDigits<<last
	if cut <= 0 {
		write(dst, a, squares[:last])
		return
	}
	q, r, _ := DivMod(a, squares[last])
	write(dst[:cut], q, squares[:last])
	write(dst[cut:], r, squares[:last])
}

// writeLimbs fills dst with a's digits, noughts ahead; a is used up.
func writeLimbs(dst []byte, a []uint64) {
	by := powerOfTen(limbDigits)
	for len(dst) > 0 {
		v := divideByLimb(a, by)
		a = trim(a)
		end := max(0, len(dst)-limbDigits)
		for i := len(dst) - 1; i >= end; i-- {
			dst[i] = byte('0' + v%10)
			v /= 10
		}
		dst = dst[:end]
	}
}

// Parse is the number whose Text s is: ErrLong, if s has more than 20000
// bytes, ErrForm, if it is no number's.
func Parse(s string) ([]uint64, api.Errno) {
	if len(s) > mostDigits {
		return nil, api.ErrLong
	}
	if !isText(s) {
		return nil, api.ErrForm
	}
	a := make([]uint64, 0, len(s)/limbDigits+1)
	for len(s) > 0 {
		n := (len(s)-1)%limbDigits + 1
		a = timesAnd(a, powerOfTen(n), limbOf(s[:n]))
		s = s[n:]
	}
	return a, api.OK
}

// isText tells whether s is digits, at least one, the first one no nought
// but of 0 itself.
func isText(s string) bool {
	if s == "" || s[0] == '0' && s != "0" {
		return false
	}
	for i := range len(s) {
		if s[i] < '0' || s[i] > '9' {
			return false
		}
	}
	return true
}

// limbOf is the number of at most limbDigits digits.
func limbOf(s string) uint64 {
	var v uint64
	for i := range len(s) {
		v = 10*v + uint64(s[i]-'0')
	}
	return v
}

// timesAnd is a times v and c, written over a.
func timesAnd(a []uint64, v, c uint64) []uint64 {
	for i := range a {
		a[i], c = mulAdd(a[i], v, c)
	}
	if c == 0 {
		return a
	}
	return append(a, c)
}
