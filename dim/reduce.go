package dim

import (
	"maps"
	"slices"

	"metewand/api"
	"metewand/internal/exact"
	"metewand/internal/failure"
)

// row is a product of powers of dimensions of a list.
type row struct {
	dim   exponents[string]
	parts exponents[int] // the powers, by the places of the dimensions
	lead  string         // a base of dim, which no row behind this one has
}

// basis is a row for each independent dimension of a list.
type basis []row

// reduced returns the rows of independent dimensions, and those of dependent ones, which have no dimension. It throws the errors of the list first.
func reduced(l [][]api.Power) (independent basis, dependent []row) {
	failure.Check(firstFault(l, fault))
	for i, d := range l {
		r := independent.rest(d, i)
		if len(r.dim) == 0 {
			dependent = append(dependent, r)
			continue
		}
		r.lead = slices.Min(slices.Collect(maps.Keys(r.dim)))
		independent = independent.with(r)
	}
	return independent, dependent
}

// with returns a basis with a row more.
func (b basis) with(r row) basis {
	return append(b[:len(b):len(b)], r)
}

// rest returns the product of a dimension, which counts as the one at a place, and powers of the independent ones, in which there is no lead of them.
func (b basis) rest(d powers, place int) row {
	r := row{dim: d.atWork(), parts: exponents[int]{place: exact.One()}}
rows:
	for _, other := range b {
		exp, is := r.dim[other.lead]
		switch {
		case len(r.dim) == 0:
			break rows
		case is:
			times := exp.Over(other.dim[other.lead]).Negated()
			r.dim.multiply(other.dim, times)
			r.parts.multiply(other.parts, times)
		}
	}
	return r
}

// express returns the exponents, as many as there are dimensions in the list, by which the product of its independent dimensions is d; it throws ErrNone if there are none.
func (b basis) express(d powers, size int) []api.Rat {
	r := b.rest(d, size)
	if len(r.dim) > 0 {
		failure.Throw(api.ErrNone)
	}
	exps := exponents[int]{}
	exps.multiply(r.parts, exact.One().Negated())
	return listed(exps, size)
}

// listed returns a list of so many exponents.
func listed(x exponents[int], size int) []api.Rat {
	list := make([]api.Rat, size)
	for i := range size {
		list[i] = x[i].Returned()
	}
	return list
}
