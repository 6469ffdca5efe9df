package rat

import (
	"strings"

	"gesso/api"
	"gesso/nat"
	"gesso/zed"
)

const longest = 20000 // what Parse takes

// Text is a's upper number, and, if the lower one is not 1, a / and that one.
func Text(a api.Rat) string {
	a = by(parts(a))
	if isOne(a.Q) {
		return zed.Text(a.P)
	}
	return zed.Text(a.P) + "/" + nat.Text(a.Q)
}

// Parse is the fraction whose Text s is: ErrLong, if s has more than 20000
// bytes, ErrForm, if it is no fraction's.
func Parse(s string) (api.Rat, api.Errno) {
	if len(s) > longest {
		return api.Rat{}, api.ErrLong
	}
	upper, lower, cut := strings.Cut(s, "/")
	p, e := zed.Parse(upper)
	if e != api.OK {
		return api.Rat{}, e
	}
	if !cut {
		return api.Rat{P: p, Q: nat.Of(1)}, api.OK
	}
	q, e := nat.Parse(lower)
	if e != api.OK {
		return api.Rat{}, e
	}
	// Text tells no lower number that is 0 or 1, and lowest terms alone
	if nat.Bits(q) < 2 || !coprime(p, q) {
		return api.Rat{}, api.ErrForm
	}
	return api.Rat{P: p, Q: q}, api.OK
}
