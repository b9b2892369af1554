package unit

import (
	"strconv"

	"metewand/api"
	"metewand/dim"
	"metewand/internal/exact"
	"metewand/internal/failure"
	"metewand/ratio"
)

// amount is the unit of a text at work: its numbers, and those of its dimension, may be of any size.
type amount struct {
	name           string
	factor, offset exact.Rat
	parts          []part
}

// part is a dimension in a product, and its exponent num/den; den is not 0.
type part struct {
	dim      []api.Power
	num, den int
}

// product returns the product of parts; ErrLarge if it has an exponent that is too large.
func product(parts ...part) ([]api.Power, api.Errno) {
	dims := make([][]api.Power, len(parts))
	exps := make([]api.Rat, len(parts))
	for i, p := range parts {
		exp, e := ratio.Make(strconv.Itoa(p.num), strconv.Itoa(p.den))
		failure.Check(e)
		dims[i], exps[i] = p.dim, exp
	}
	return dim.Product(dims, exps)
}

// isNone tells whether a product of parts has no dimension. (An exponent that is too large is not 0.)
func isNone(parts ...part) bool {
	d, e := product(parts...)
	return e == api.OK && len(d) == 0
}

// sameDim tells whether both units have the same dimension.
func (a amount) sameDim(b amount) bool {
	parts := a.parts[:len(a.parts):len(a.parts)]
	for _, p := range b.parts {
		parts = append(parts, part{p.dim, -p.num, p.den})
	}
	return isNone(parts...)
}

// raised returns x, which is not 0, to the power of an exponent.
func raised(x exact.Rat, exp int) exact.Rat {
	apply := exact.Rat.Times
	if exp < 0 {
		apply = exact.Rat.Over
	}
	power := exact.One()
	for range max(exp, -exp) {
		power = apply(power, x)
	}
	return power
}

// resolved is a unit as it is returned, with its offset.
type resolved struct {
	api.Unit
	offset api.Rat
}

// returned throws ErrLarge if a number of the unit is too large.
func (a amount) returned() resolved {
	d, e := product(a.parts...)
	failure.Check(e)
	return resolved{api.Unit{Name: a.name, Factor: a.factor.Returned(), Dim: d}, a.offset.Returned()}
}

// quantity is a number of a unit.
type quantity interface {
	Times(factor exact.Rat) exact.Rat
}

type (
	number struct{ exact.Rat } // how many there are
	step   struct{ exact.Rat } // how many more than before
)

// zero returns what 0 of a unit is in base units, for a quantity of this kind.
func (a amount) zero(q quantity) exact.Rat {
	switch q.(type) {
	case number:
		return a.offset
	default:
		return exact.Rat{}
	}
}

// reading is a text, and how its unit is found.
type reading struct {
	text string
	unit func(text string) amount
}

// converted returns the number of the second unit that is as much as q of the first one; it throws ErrUnits unless both have the same dimension.
func converted(q quantity, from, to reading) api.Rat {
	a := from.unit(from.text)
	b := to.unit(to.text)
	if !a.sameDim(b) {
		failure.Throw(api.ErrUnits)
	}
	based := q.Times(a.factor).Plus(a.zero(q))
	return based.Minus(b.zero(q)).Over(b.factor).Returned()
}
