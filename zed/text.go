package zed

import (
	"strings"

	"gesso/api"
	"gesso/nat"
)

const longest = 20000 // what Parse takes

// Text is a's decimal digits, - ahead of what is below 0.
func Text(a api.Int) string {
	if Sign(a) < 0 {
		return "-" + nat.Text(a.N)
	}
	return nat.Text(a.N)
}

// Parse is the number whose Text s is: ErrLong, if s has more than 20000
// bytes, ErrForm, if it is no number's.
func Parse(s string) (api.Int, api.Errno) {
	if len(s) > longest {
		return api.Int{}, api.ErrLong
	}
	digits, neg := strings.CutPrefix(s, "-")
	limbs, e := nat.Parse(digits)
	if e != api.OK {
		return api.Int{}, e
	}
	if neg && len(limbs) == 0 {
		return api.Int{}, api.ErrForm
	}
	return number(neg, limbs), api.OK
}
