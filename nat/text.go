package nat

import (
	"sync"

	"gesso/api"
)

const (
	limbDigits = 19    // 10 to this is the highest power of ten in a limb
	shortLimbs = 16    // up to here limb by limb is quicker than by halves
	mostDigits = 20000 // what Parse takes
)

var (
	tensOnce sync.Once
	tens     [limbDigits + 1]uint64
)

// tenTo is 10 to the k, k from 0 to limbDigits.
func tenTo(k int) uint64 {
	tensOnce.Do(func() {
		tens[0] = 1
		for i := 1; i < len(tens); i++ {
			tens[i] = 10 * tens[i-1]
		}
	})
	return tens[k]
}

// Text is a's decimal digits, no noughts ahead.
func Text(a []uint64) string {
	a = trim(a)
	if len(a) == 0 {
		return "0"
	}
	// 0.30103 is a little above the digits that a bit makes
	digits := make([]byte, Bits(a)*30103/100000+1)
	write(digits, a, squaresOfTen(len(a)))
	first := 0
	for digits[first] == '0' {
		first++
	}
	return string(digits[first:])
}

// squaresOfTen are 10 to the limbDigits, its square, the square of that ..,
// till the square of the last one is above all numbers of n limbs.
func squaresOfTen(n int) [][]uint64 {
	if n <= shortLimbs {
		return nil
	}
	top := Of(tenTo(limbDigits))
	l := [][]uint64{top}
	for 2*len(top)-1 <= n {
		top = Mul(top, top)
		l = append(l, top)
	}
	return l
}

// write fills dst with a's digits, noughts ahead; dst has room for them, and
// a is below the square of the last one of squares. Where dst is longer than
// that one's noughts, a is cut there, and each part written likewise.
func write(dst []byte, a []uint64, squares [][]uint64) {
	if len(a) <= shortLimbs {
		writeLimbs(dst, fresh(a))
		return
	}
	last := len(squares) - 1
	cut := len(dst) - limbDigits<<last
	if cut <= 0 {
		write(dst, a, squares[:last])
		return
	}
	q, r, _ := DivMod(a, squares[last])
	write(dst[:cut], q, squares[:last])
	write(dst[cut:], r, squares[:last])
}

// writeLimbs fills dst with a's digits, noughts ahead; a is used up.
func writeLimbs(dst []byte, a []uint64) {
	for len(dst) > 0 {
		v := divideByLimb(a, tenTo(limbDigits))
		a = trim(a)
		end := max(0, len(dst)-limbDigits)
		for i := len(dst) - 1; i >= end; i-- {
			dst[i] = byte('0' + v%10)
			v /= 10
		}
		dst = dst[:end]
	}
}

// Parse is the number whose Text s is: ErrLong, if s has more than 20000
// bytes, ErrForm, if it is no number's.
func Parse(s string) ([]uint64, api.Errno) {
	if len(s) > mostDigits {
		return nil, api.ErrLong
	}
	if !isText(s) {
		return nil, api.ErrForm
	}
	a := make([]uint64, 0, len(s)/limbDigits+1)
	for len(s) > 0 {
		n := (len(s)-1)%limbDigits + 1
		a = timesAnd(a, tenTo(n), limbOf(s[:n]))
		s = s[n:]
	}
	return a, api.OK
}

// isText tells whether s is digits, at least one, the first one no nought
// but of 0 itself.
func isText(s string) bool {
	if s == "" || s[0] == '0' && s != "0" {
		return false
	}
	for i := range len(s) {
		if s[i] < '0' || s[i] > '9' {
			return false
		}
	}
	return true
}

// limbOf is the number of at most limbDigits digits.
func limbOf(s string) uint64 {
	var v uint64
	for i := range len(s) {
		v = 10*v + uint64(s[i]-'0')
	}
	return v
}

// timesAnd is a times v and c, written over a.
func timesAnd(a []uint64, v, c uint64) []uint64 {
	for i := range a {
		a[i], c = mulAdd(a[i], v, c)
	}
	if c == 0 {
		return a
	}
	return append(a, c)
}
