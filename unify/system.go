package unify

import (
	"maps"
	"slices"

	"metewand/api"
	"metewand/dim"
	"metewand/internal/failure"
	"metewand/ratio"
)

// system is a valid system at work.
type system struct {
	variables int
	equations []equation
}

// equation is a valid equation at work.
type equation struct {
	api.UnifyEq
	dim dimension // what Dim is
}

// dimension is the exponents of bases.
type dimension map[string]api.Rat

func dimensionOf(d []api.Power) dimension {
	exps := dimension{}
	for _, p := range d {
		exps[p.Base] = p.Exp
	}
	return exps
}

func (d dimension) exponent(base string) api.Rat {
	exp, is := d[base]
	if !is {
		return api.Rat{Num: "0", Den: "1"}
	}
	return exp
}

// valid throws the error of a system.
func valid(n int, eqs []api.UnifyEq) system {
	switch {
	case n < 0, n > api.UnifyVars:
		failure.Throw(api.ErrValue)
	case len(eqs) > api.UnifyEqs:
		failure.Throw(api.ErrMany)
	}
	return system{n, mapped(eqs, func(eq api.UnifyEq) equation { return validEquation(n, eq) })}
}

// validEquation throws the error of an equation in a system of n variables.
func validEquation(n int, eq api.UnifyEq) equation {
	checkCount(len(eq.Exps), n)
	for _, exp := range eq.Exps {
		failure.Check(ratio.Check(exp))
	}
	failure.Check(dim.Check(eq.Dim))
	return equation{eq, dimensionOf(eq.Dim)}
}

func checkDims(dims [][]api.Power) {
	for _, d := range dims {
		failure.Check(dim.Check(d))
	}
}

// checkCount throws ErrFew or ErrMany unless there are as many as there have to be.
func checkCount(count, due int) {
	switch {
	case count < due:
		failure.Throw(api.ErrFew)
	case count > due:
		failure.Throw(api.ErrMany)
	}
}

// bases returns the bases of the equations, and of more dimensions, ascending.
func (s system) bases(more ...dimension) []string {
	all := dimension{}
	for _, d := range more {
		maps.Copy(all, d)
	}
	for _, x := range s.equations {
		maps.Copy(all, x.dim)
	}
	return slices.Sorted(maps.Keys(all))
}

// with returns the system with more equations.
func (s system) with(more ...equation) system {
	size := len(s.equations)
	return system{s.variables, append(s.equations[:size:size], more...)}
}

// part returns the system of some of the equations.
func (s system) part(list []int) system {
	return system{s.variables, mapped(list, func(i int) equation { return s.equations[i] })}
}

// holds tells whether dimensions, as many as there are variables, are a solution.
func (s system) holds(dims [][]api.Power) bool {
	size := len(dims)
	return !slices.ContainsFunc(s.equations, func(x equation) bool {
		one := api.Rat{Num: "1", Den: "1"}
		product, e := dim.Product(append(dims[:size:size], x.Dim), append(x.Exps[:size:size], one))
		// An exponent that is too large is not 0.
		return e != api.OK || len(product) > 0
	})
}

// exponents returns those of the variables, and then of bases.
func (x equation) exponents(bases []string) []api.Rat {
	size := len(x.Exps)
	return append(x.Exps[:size:size], mapped(bases, x.dim.exponent)...)
}

// numbers returns the exponents of an equation as numbers of some kind.
func numbers[T any](x equation, bases []string, kind func(api.Rat) T) []T {
	return mapped(x.exponents(bases), kind)
}

// mapped returns what a function makes of the elements of a list.
func mapped[A, B any](list []A, of func(A) B) []B {
	results := make([]B, len(list))
	for i, x := range list {
		results[i] = of(x)
	}
	return results
}
