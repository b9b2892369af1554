package ratio

import (
	"metewand/api"
	"metewand/internal/failure"
)

// between returns the simplest number that is greater than n and less than m.
func (n number) between(m number) number {
	switch {
	case n.compare(m) >= 0:
		failure.Throw(api.ErrOrder)
	case !n.negative():
		return n.simplest(m)
	case m.negative() || m.isZero():
		return m.negated().simplest(n.negated()).negated()
	}
	return of("0", "1")
}

// simplest goes down the tree of fractions: as long as no whole number is between, the simplest number has the whole part of n, and one over the simplest number between the inverses of both parts. (That of the part 0 is greater than all numbers, as 1/0 is in the comparison here.) N is not less than 0, and less than m.
func (n number) simplest(m number) number {
	var path []string
deeper:
	x := n.mixed()
	rest := sub(m.Num, mul(x.floor, m.Den))
	if order(rest, m.Den) <= 0 {
		path = append(path, x.floor)
		n, m = of(m.Den, rest), x.inverse()
		goto deeper
	}
	return ofTerms(appended(path, add(x.floor, "1")))
}
