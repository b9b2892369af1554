package unify

import (
	"slices"

	"metewand/api"
	"metewand/internal/exact"
	"metewand/internal/failure"
)

// reduction is a system as reduced rows of exponents, of the variables and then of the bases.
type reduction struct {
	grid[exact.Rat]
	variables int
	bases     []string
	leads     []int // the columns in which the rows begin
}

// reduced returns the reduction of a system. It has columns for all bases of a list, in which are those of the system.
func (s system) reduced(bases []string) reduction {
	row := func(x equation) []exact.Rat { return numbers(x, bases, exact.Of) }
	r := reduction{grid: grid[exact.Rat]{exact.One(), mapped(s.equations, row)}, variables: s.variables, bases: bases}
	r.leads = r.reduce()
	return r
}

// left returns bases of which at least one is left in each product of powers of the equations that has a dimension, but no variable. There are none just if there is a solution.
func (r reduction) left() []string {
	var left []string
	for _, lead := range r.leads {
		if lead >= r.variables {
			left = append(left, r.bases[lead-r.variables])
		}
	}
	return left
}

func (r reduction) contradicts() bool { return len(r.left()) > 0 }

func (s system) contradicts() bool { return s.reduced(s.bases()).contradicts() }

// solved throws ErrClash if there is no solution. The reduction has columns for the bases of more dimensions.
func (s system) solved(more ...dimension) reduction {
	r := s.reduced(s.bases(more...))
	if r.contradicts() {
		failure.Throw(api.ErrClash)
	}
	return r
}

// free returns the free variables, which no row begins with.
func (r reduction) free() []int {
	var free []int
	for v := range r.variables {
		if !slices.Contains(r.leads, v) {
			free = append(free, v)
		}
	}
	return free
}

// answer returns the exponents of what a variable is: of itself, less those of the row that begins with it.
func (r reduction) answer(variable int) []exact.Rat {
	answer := make([]exact.Rat, r.variables+len(r.bases))
	row, begins := slices.BinarySearch(r.leads, variable)
	switch begins {
	case true:
		lessen(answer, r.rows[row], r.one)
		fallthrough
	default:
		answer[variable] = answer[variable].Plus(r.one)
	}
	return answer
}

// written returns an answer as it is given out.
func (r reduction) written(answer []exact.Rat) api.UnifyEq {
	return api.UnifyEq{Exps: mapped(answer[:r.variables], exact.Rat.Returned), Dim: r.dim(answer[r.variables:])}
}

// dim returns the dimension with given exponents of the bases.
func (r reduction) dim(exps []exact.Rat) []api.Power {
	var d []api.Power
	for i, exp := range exps {
		if !exp.IsZero() {
			d = append(d, api.Power{Base: r.bases[i], Exp: exp.Returned()})
		}
	}
	return d
}

// instance throws ErrClash if there is no solution, then ErrFew or ErrMany unless there are as many dimensions as free variables.
func (s system) instance(dims [][]api.Power) [][]api.Power {
	given := mapped(dims, dimensionOf)
	r := s.solved(given...)
	free := r.free()
	checkCount(len(given), len(free))
	values := mapped(given, func(d dimension) []exact.Rat {
		return numbers(equation{dim: d}, r.bases, exact.Of)
	})
	solution := make([][]api.Power, r.variables)
	for v := range r.variables {
		answer := r.answer(v)
		exps := answer[r.variables:]
		for i, f := range free {
			lessen(exps, values[i], answer[f].Negated())
		}
		solution[v] = r.dim(exps)
	}
	return solution
}

// only returns the dimension of a variable; it throws ErrNone if this depends on free ones.
func (r reduction) only(variable int) []api.Power {
	answer := r.answer(variable)
	if slices.Contains(mapped(answer[:r.variables], exact.Rat.IsZero), false) {
		failure.Throw(api.ErrNone)
	}
	return r.dim(answer[r.variables:])
}

// implies tells whether an equation holds in all solutions: it does not, if it makes a row more.
func (s system) implies(x equation) bool {
	bases := s.bases(x.dim)
	alone := s.reduced(bases)
	return alone.contradicts() || len(s.with(x).reduced(bases).leads) == len(alone.leads)
}

// same tells whether two systems have the same solutions. If there are any, the rows are the same just if the solutions are.
func (s system) same(other system) bool {
	bases := s.with(other.equations...).bases()
	a, b := s.reduced(bases), other.reduced(bases)
	return a.contradicts() && b.contradicts() || slices.EqualFunc(a.rows, b.rows, func(x, y []exact.Rat) bool {
		return slices.EqualFunc(x, y, func(x, y exact.Rat) bool { return x.Minus(y).IsZero() })
	})
}
