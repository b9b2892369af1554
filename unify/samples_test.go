package unify_test

import (
	"maps"
	"regexp"
	"slices"
	"strings"

	"metewand/api"
	"metewand/internal/byhand"
	"metewand/internal/outcome"
	"metewand/unify"
)

var nines, tens, over = byhand.Limits()

// preview shortens the numbers of a message.
func preview(s string) string {
	return regexp.MustCompile(`[0-9]{40,}`).ReplaceAllStringFunc(s, byhand.Preview)
}

// The bases of the tests' dimensions.
var bases = strings.Fields("kg m mol s temp")

// sample is how random systems look.
type sample struct {
	byhand.Chance
	variables int
	digits    int // of some exponents, at most; 0: all are small
	some      int // one of so many exponents is not 0
}

func (s *sample) exponent() api.Rat {
	if s.digits > 0 && s.Below(3) == 0 {
		part := func() string { return byhand.Add(byhand.Amount(s.Number(1+s.Below(s.digits))), "1") }
		return byhand.Reduced(part(), part())
	}
	return q(strings.Fields("1 -1 1 -1 1 -1 2 -2 3 1/2 -1/3 -3/2")[s.Below(12)])
}

func (s *sample) exponents(size int) []api.Rat {
	exps := slices.Repeat(rats("0"), size)
	for i := range exps {
		if s.Below(s.some) == 0 {
			exps[i] = s.exponent()
		}
	}
	return exps
}

func (s *sample) dimension() []api.Power {
	var out []api.Power
	for _, base := range bases {
		if s.Below(3) == 0 {
			out = append(out, api.Power{Base: base, Exp: s.exponent()})
		}
	}
	return out
}

func (s *sample) dimensions(size int) [][]api.Power {
	l := make([][]api.Power, size)
	for i := range l {
		l[i] = s.dimension()
	}
	return l
}

// solvable returns equations that hold with some dimensions; some of them are products of others.
func (s *sample) solvable(size int) []api.UnifyEq {
	var l []api.UnifyEq
	values := s.dimensions(s.variables)
	for range size {
		if len(l) > 0 && s.Below(3) == 0 {
			l = append(l, combined(s.variables, l, s.exponents(len(l))))
			continue
		}
		exps := s.exponents(s.variables)
		l = append(l, api.UnifyEq{Exps: exps, Dim: productByHand(values, negated(exps))})
	}
	return l
}

// system returns equations of which some, one of so many, have another dimension than the others allow.
func (s *sample) system(size, wrong int) []api.UnifyEq {
	l := s.solvable(size)
	for i := range l {
		if s.Below(wrong) == 0 {
			l[i].Dim = productByHand([][]api.Power{l[i].Dim, s.dimension()}, rats("1 1"))
		}
	}
	return l
}

func negated(l []api.Rat) []api.Rat {
	var out []api.Rat
	for _, x := range l {
		out = append(out, byhand.Negated(x))
	}
	return out
}

var (
	sum   = byhand.Sum
	times = byhand.Product
)

// productByHand may have exponents of any size.
func productByHand(l [][]api.Power, exps []api.Rat) []api.Power {
	sums := map[string]api.Rat{}
	for i, d := range l {
		for _, p := range d {
			before, is := sums[p.Base]
			if !is {
				before = q("0")
			}
			sums[p.Base] = sum(before, times(p.Exp, exps[i]))
		}
	}
	var out []api.Power
	for _, base := range slices.Sorted(maps.Keys(sums)) {
		if sums[base].Num != "0" {
			out = append(out, api.Power{Base: base, Exp: sums[base]})
		}
	}
	return out
}

// combined returns the product of equations to some powers.
func combined(variables int, l []api.UnifyEq, exps []api.Rat) api.UnifyEq {
	out := api.UnifyEq{Exps: slices.Repeat(rats("0"), variables)}
	var dims [][]api.Power
	for i, x := range l {
		dims = append(dims, x.Dim)
		for v := range variables {
			out.Exps[v] = sum(out.Exps[v], times(x.Exps[v], exps[i]))
		}
	}
	out.Dim = productByHand(dims, exps)
	return out
}

// put returns an equation in which answers are in the places of the variables.
func put(x api.UnifyEq, answers []api.UnifyEq) api.UnifyEq {
	one := append(slices.Clone(x.Exps), q("1"))
	return combined(len(answers), append(slices.Clone(answers), api.UnifyEq{Exps: slices.Repeat(rats("0"), len(answers)), Dim: x.Dim}), one)
}

// isNone tells whether an equation says nothing.
func isNone(x api.UnifyEq) bool {
	return len(x.Dim) == 0 && !slices.ContainsFunc(x.Exps, func(exp api.Rat) bool { return exp.Num != "0" })
}

// rows returns the exponents of variables, and those of bases, too, if these count.
func rows(l []api.UnifyEq, whole bool) [][]api.Rat {
	var out [][]api.Rat
	for _, x := range l {
		line := slices.Clone(x.Exps)
		for _, base := range bases {
			exp := q("0")
			if i := slices.IndexFunc(x.Dim, func(p api.Power) bool { return p.Base == base }); whole && i >= 0 {
				exp = x.Dim[i].Exp
			}
			line = append(line, exp)
		}
		out = append(out, line)
	}
	return out
}

// contradictsByHand tells whether equations have no solution.
func contradictsByHand(l []api.UnifyEq) bool {
	return byhand.Rank(rows(l, true)) > byhand.Rank(rows(l, false))
}

// freeByHand finds the free variables: those that make no row more if their exponents count, too.
func freeByHand(variables int, l []api.UnifyEq) []int {
	first := func(size int) int {
		var out [][]api.Rat
		for _, x := range l {
			out = append(out, x.Exps[:size])
		}
		return byhand.Rank(out)
	}
	var free []int
	for v := range variables {
		if first(v+1) == first(v) {
			free = append(free, v)
		}
	}
	return free
}

// dependsByHand tells which equations are products of powers of earlier ones.
func dependsByHand(l []api.UnifyEq) []bool {
	out := make([]bool, len(l))
	for i := range l {
		out[i] = byhand.Rank(rows(l[:i+1], true)) == byhand.Rank(rows(l[:i], true))
	}
	return out
}

func chosen(l []api.UnifyEq, numbers []int) []api.UnifyEq {
	var out []api.UnifyEq
	for _, i := range numbers {
		out = append(out, l[i])
	}
	return out
}

// clashByHand goes through all lists of numbers, shorter ones first.
func clashByHand(l []api.UnifyEq) []int {
	var find func(list []int, next, more int) []int
	find = func(list []int, next, more int) []int {
		if more == 0 {
			if contradictsByHand(chosen(l, list)) {
				return list
			}
			return nil
		}
		for ; next < len(l); next++ {
			if found := find(append(list[:len(list):len(list)], next), next+1, more-1); found != nil {
				return found
			}
		}
		return nil
	}
	for size := range len(l) {
		if found := find(nil, 0, size+1); found != nil {
			return found
		}
	}
	return nil
}

// outcomes calls all functions with some arguments, and returns what they return.
func outcomes(n int, l, others []api.UnifyEq, x api.UnifyEq, dims [][]api.Power, variable int) []string {
	return []string{
		outcome.Name(unify.Check(n, l)), is(unify.Holds(n, l, dims)), answers(unify.Solve(n, l)), list(unify.Free(n, l)), solution(unify.Instance(n, l, dims)),
		list(unify.Clash(n, l)), numbers(unify.Proof(n, l)), is(unify.Follows(n, l, x)), numbers(unify.Derive(n, l, x)), is(unify.Same(n, l, others)), one(unify.Only(n, l, variable)),
	}
}

// distinct returns so many dimensions of bases of their own.
func distinct(size int) [][]api.Power {
	var l [][]api.Power
	for i := range size {
		l = append(l, []api.Power{{Base: "x" + string(rune('a'+i)), Exp: q("1")}})
	}
	return l
}
