package unify

import (
	"cmp"
	"slices"
	"strings"

	"metewand/api"
	"metewand/internal/exact"
	"metewand/internal/failure"
)

// clash returns the shortest list of equations that contradict each other, and of several the least one; it throws ErrNone if there is none.
//
// Very many lists have to be looked at for this, so the search computes with remainders modulo a prime, and what it finds is tried with exact numbers. If that is no contradiction, the prime is a bad one, and does not count. Otherwise it is the best list, unless the prime divides a certain determinant of the best list, which is not 0 (it has a row for each equation, and columns for some of the variables and a base). Not all primes can divide this, once their product has more digits than such a determinant.
func (s system) clash() []int {
	left := s.reduced(s.bases()).left()
	if len(left) == 0 {
		failure.Throw(api.ErrNone)
	}
	var best []int
	size := len(s.equations)
	used, due := 0, s.digits(left, size)
	for p := range primes() {
		if s.hasBelow(left, p) {
			continue
		}
		switch list := s.modulo(p, left).shortest(size); {
		case len(list) > 0 && !s.part(list).contradicts():
			continue
		case len(list) > 0 && (len(best) == 0 || before(list, best)):
			best, size = list, len(list)
			due = s.digits(left, size)
			fallthrough
		default:
			used += primeDigits
		}
		if used >= due {
			break
		}
	}
	return best
}

// before tells whether a list is shorter, or as long and less.
func before(a, b []int) bool {
	return cmp.Or(cmp.Compare(len(a), len(b)), slices.Compare(a, b)) < 0
}

// hasBelow tells whether a prime divides a denominator.
func (s system) hasBelow(bases []string, p prime) bool {
	return slices.ContainsFunc(s.equations, func(x equation) bool {
		return slices.ContainsFunc(x.exponents(bases), p.dividesBelow)
	})
}

// digits returns how many digits determinants of at most so many equations have at most, if the exponents of each one are multiplied by their denominators: they are not greater than the product of the sums of rows.
func (s system) digits(bases []string, size int) int {
	sums := mapped(s.equations, func(x equation) string { return x.sum(bases).Text() })
	slices.SortFunc(sums, func(a, b string) int {
		return cmp.Or(cmp.Compare(len(b), len(a)), strings.Compare(b, a))
	})
	product := exact.One()
	for _, sum := range sums[:size] {
		// A row of zeros is in no determinant that is not 0.
		if sum != "0" {
			product = product.Times(exact.Of(api.Rat{Num: sum, Den: "1"}))
		}
	}
	return len(product.Text())
}

// sum returns the sum of the exponents, without their signs, times all their denominators.
func (x equation) sum(bases []string) exact.Rat {
	sum, below := exact.Rat{}, exact.One()
	for _, exp := range x.exponents(bases) {
		sum = sum.Plus(exact.Of(exp).Amount())
		below = below.Times(exact.Of(api.Rat{Num: exp.Den, Den: "1"}))
	}
	return sum.Times(below)
}

// proof returns the exponents, 1 for the first equation of a list, with which those of the list have no variable in their product. The list is a shortest one.
func (s system) proof(list []int) []api.Rat {
	equations := mapped(list, func(i int) []exact.Rat { return numbers(s.equations[i], nil, exact.Of) })
	exps := product(mapped(equations[0], exact.Rat.Negated), equations[1:])
	proof := make([]exact.Rat, len(s.equations))
	proof[list[0]] = exact.One()
	for i, exp := range exps {
		proof[list[i+1]] = exp
	}
	return mapped(proof, exact.Rat.Returned)
}

// derived returns the exponents with which the product of the equations is another one; it throws ErrClash if there is no solution, ErrNone if the equation does not follow.
func (s system) derived(x equation) []api.Rat {
	bases := s.solved(x.dim).bases
	exponents := func(x equation) []exact.Rat { return numbers(x, bases, exact.Of) }
	return mapped(product(exponents(x), mapped(s.equations, exponents)), exact.Rat.Returned)
}
