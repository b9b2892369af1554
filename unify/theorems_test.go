package unify_test

import (
	"slices"
	"testing"

	"metewand/api"
	"metewand/dim"
	"metewand/internal/byhand"
	"metewand/internal/outcome"
	"metewand/unify"
)

// kinds are the systems with which the theorems are tried.
func kinds(seed byhand.Chance) []sample {
	return []sample{{seed, 2, 0, 1}, {seed + 1, 4, 0, 2}, {seed + 2, 7, 0, 4}, {seed + 3, 3, 10, 2}}
}

func free(t *testing.T, n int, l []api.UnifyEq) []int {
	t.Helper()
	return outcome.Must[[]int](t)(unify.Free(n, l))
}

func instance(t *testing.T, n int, l []api.UnifyEq, dims [][]api.Power) [][]api.Power {
	t.Helper()
	return outcome.Must[[][]api.Power](t)(unify.Instance(n, l, dims))
}

func holds(t *testing.T, n int, l []api.UnifyEq, dims [][]api.Power) bool {
	t.Helper()
	return outcome.Must[bool](t)(unify.Holds(n, l, dims))
}

// P5.8

func TestP5_08Solution(t *testing.T) {
	for _, s := range kinds(71) {
		for range 80 {
			values := s.dimensions(s.variables)
			var l []api.UnifyEq
			for range s.Below(7) {
				exps := s.exponents(s.variables)
				l = append(l, api.UnifyEq{Exps: exps, Dim: productByHand(values, negated(exps))})
			}
			var given [][]api.Power
			for _, v := range free(t, s.variables, l) {
				given = append(given, values[v])
			}
			row(t, []string{solution(unify.Instance(s.variables, l, given))}, solution(values, api.OK))
			if !holds(t, s.variables, l, instance(t, s.variables, l, s.dimensions(len(given)))) {
				t.Fatal(answers(l, api.OK))
			}
		}
	}
}

// P5.9

func TestP5_09Contradiction(t *testing.T) {
	some := 0
	for _, s := range kinds(81) {
		for range 80 {
			l := s.system(s.Below(10), 5)
			_, e := unify.Solve(s.variables, l)
			clash, f := unify.Clash(s.variables, l)
			proof, g := unify.Proof(s.variables, l)
			if e == api.OK {
				row(t, []string{list(clash, f), numbers(proof, g)}, "ErrNone", "ErrNone")
				continue
			}
			some++
			row(t, []string{outcome.Name(e), outcome.Name(f), outcome.Name(g), list(unify.Clash(s.variables, chosen(l, clash)))}, "ErrClash", "OK", "OK", list(upTo(len(clash)), api.OK))
			for i := range clash {
				rest := slices.Delete(slices.Clone(clash), i, i+1)
				row(t, []string{list(unify.Clash(s.variables, chosen(l, rest)))}, "ErrNone")
			}
			var dims [][]api.Power
			for _, x := range l {
				dims = append(dims, x.Dim)
			}
			if left := outcome.Must[[]api.Power](t)(dim.Product(dims, proof)); len(left) == 0 {
				t.Fatal(answers(l, api.OK), proof)
			}
			proves(t, s.variables, l, clash, proof)
		}
	}
	if some < 100 {
		t.Error(some)
	}
}

func upTo(size int) []int {
	var l []int
	for i := range size {
		l = append(l, i)
	}
	return l
}

// P5.10

func TestP5_10Follows(t *testing.T) {
	counts := map[bool]int{}
	for _, s := range kinds(91) {
		for range 80 {
			l := s.system(s.Below(6), 30)
			product := combined(s.variables, l, s.exponents(len(l)))
			row(t, []string{is(unify.Follows(s.variables, l, product))}, "true")
			x := product
			if s.Below(2) == 0 {
				x = api.UnifyEq{Exps: s.exponents(s.variables), Dim: s.dimension()}
			}
			follows := outcome.Must[bool](t)(unify.Follows(s.variables, l, x))
			counts[follows]++
			row(t, []string{is(unify.Same(s.variables, l, append(slices.Clone(l), x)))}, is(follows, api.OK))
			derived, e := unify.Derive(s.variables, l, x)
			switch _, f := unify.Solve(s.variables, l); {
			case f == api.ErrClash:
				row(t, []string{outcome.Name(e)}, "ErrClash")
			case !follows:
				row(t, []string{outcome.Name(e)}, "ErrNone")
			default:
				row(t, []string{outcome.Name(e), answers([]api.UnifyEq{combined(s.variables, l, derived)}, api.OK)}, "OK", answers([]api.UnifyEq{x}, api.OK))
			}
		}
	}
	if counts[true] < 100 || counts[false] < 50 {
		t.Error(counts)
	}
}

// P5.11

func TestP5_11Order(t *testing.T) {
	for _, s := range kinds(101) {
		for range 80 {
			l := s.system(s.Below(8), 20)
			other := slices.Clone(l)
			for i := range other {
				j := s.Below(i + 1)
				other[i], other[j] = other[j], other[i]
			}
			for i, x := range other {
				other[i] = combined(s.variables, []api.UnifyEq{x}, []api.Rat{s.exponent()})
			}
			row(t, []string{is(unify.Same(s.variables, l, other)), answers(unify.Solve(s.variables, other)), list(unify.Free(s.variables, other))}, "true", answers(unify.Solve(s.variables, l)), list(unify.Free(s.variables, l)))
		}
	}
}

// P5.12

func TestP5_12More(t *testing.T) {
	counts := map[string]int{}
	for _, s := range kinds(111) {
		for range 80 {
			l := s.solvable(s.Below(6))
			before := len(free(t, s.variables, l))
			x := api.UnifyEq{Exps: s.exponents(s.variables), Dim: s.dimension()}
			if s.Below(2) == 0 {
				x = combined(s.variables, l, s.exponents(len(l)))
			}
			more := append(slices.Clone(l), x)
			after, e := unify.Free(s.variables, more)
			switch {
			case e == api.ErrClash:
				counts["clash"]++
				continue
			case e == api.OK && len(after) == before:
				counts["as many"]++
			case e == api.OK && len(after) == before-1:
				counts["fewer"]++
			default:
				t.Fatal(answers(more, api.OK), list(after, e))
			}
			if !holds(t, s.variables, l, instance(t, s.variables, more, s.dimensions(len(after)))) {
				t.Fatal(answers(more, api.OK))
			}
		}
	}
	if counts["clash"] < 20 || counts["as many"] < 20 || counts["fewer"] < 20 {
		t.Error(counts)
	}
}

// P5.13

func TestP5_13Only(t *testing.T) {
	some := 0
	for _, s := range kinds(121) {
		for range 80 {
			l := s.solvable(s.Below(8))
			size := len(free(t, s.variables, l))
			first, second := instance(t, s.variables, l, s.dimensions(size)), instance(t, s.variables, l, distinct(size))
			for v := range s.variables {
				only, e := unify.Only(s.variables, l, v)
				if e == api.OK {
					some++
					row(t, []string{one(first[v], api.OK), one(second[v], api.OK)}, one(only, e), one(only, e))
				} else if e != api.ErrNone || slices.Equal(first[v], second[v]) {
					// Dimensions that are not in the equations show whether something depends on the free variables.
					t.Fatal(answers(l, api.OK), v, e)
				}
			}
		}
	}
	if some < 100 {
		t.Error(some)
	}
}

// P5.14

func TestP5_14Base(t *testing.T) {
	for _, s := range kinds(131) {
		for range 80 {
			l := s.system(s.Below(7), 20)
			var powers []api.DimBase
			for _, base := range bases {
				powers = append(powers, api.DimBase{Base: base, Dim: []api.Power{{Base: base, Exp: s.exponent()}}})
			}
			rebased := func(l []api.UnifyEq) []api.UnifyEq {
				l = slices.Clone(l)
				for i, x := range l {
					l[i].Dim = outcome.Must[[]api.Power](t)(dim.Rebase(x.Dim, powers))
				}
				return l
			}
			want, e := unify.Solve(s.variables, l)
			row(t, []string{answers(unify.Solve(s.variables, rebased(l))), list(unify.Clash(s.variables, rebased(l)))}, answers(rebased(want), e), list(unify.Clash(s.variables, l)))
		}
	}
}
