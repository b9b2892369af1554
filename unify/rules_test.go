package unify_test

import (
	"slices"
	"strconv"
	"strings"
	"sync"
	"testing"

	"metewand/api"
	"metewand/internal/byhand"
	"metewand/internal/outcome"
	"metewand/unify"
)

// oddSystems returns equations of all kinds, valid ones and others, for systems of up to 3 variables.
func oddSystems() [][]api.UnifyEq {
	s := sample{141, 3, 60, 1}
	return [][]api.UnifyEq{
		nil, {}, {{}}, {{}, {Dim: d("m")}}, eqs(textS), eqs(textT), eqs(textU), s.system(6, 3), s.solvable(6), eqs("1; m"), eqs("1; m, 2; s"), eqs("1 " + nines + ", 1/" + tens + " -1; m^" + nines),
		make([]api.UnifyEq, 40), make([]api.UnifyEq, 41), make([]api.UnifyEq, 5000), {{Exps: make([]api.Rat, 3)}}, {{Exps: make([]api.Rat, 5000)}}, {{Dim: []api.Power{{}}}}, {{Exps: rats("1 2 3"), Dim: slices.Repeat(d("m"), 3000)}},
		eqs("1 2 3, 1 2/4 3"), eqs("1 2 3; M"), eqs("1 2 3; s m"), eqs("1 2 3; m^0"), {{Exps: []api.Rat{{Num: "\xff", Den: "-"}, {Num: strings.Repeat("-", 500)}, {}}}}, eqs(over + " 1 1"),
	}
}

func oddDims() [][][]api.Power {
	return [][][]api.Power{nil, {}, {nil}, dims("m"), dims("m,s"), dims("m,s,"), dims("m,,kg s^-1/2,"), dims("m^" + nines + ",s^1/" + tens + ","), dims("m,M"), dims("m^0"), {{{}}}, make([][]api.Power, 5000), {slices.Repeat(d("m"), 3000)}}
}

var oddCounts = []int{-1 << 63, -1, 0, 1, 2, 3, 40, 41, 1<<63 - 1}

// TestP1NoPanic: each function returns, whatever its arguments are.
func TestP1NoPanic(t *testing.T) {
	seed := byhand.Chance(142)
	systems, dims := oddSystems(), oddDims()
	for _, n := range oddCounts {
		for _, l := range systems {
			for range 3 {
				other, more := systems[seed.Below(len(systems))], systems[seed.Below(len(systems))]
				x := api.UnifyEq{}
				if len(more) > 0 {
					x = more[0]
				}
				outcomes(n, l, other, x, dims[seed.Below(len(dims))], oddCounts[seed.Below(len(oddCounts))])
			}
		}
	}
}

// TestR1 is the order of errors: of the system, of the equation, the other system or the dimensions, then those that the promises name, and ErrLarge.
func TestR1(t *testing.T) {
	bad := api.UnifyEq{Exps: rats("x"), Dim: d("M")}
	valid := 0
	for _, n := range oddCounts {
		for _, l := range oddSystems() {
			if e := unify.Check(n, l); e != api.OK {
				row(t, outcomes(n, l, slices.Repeat(eqs("x"), 50), bad, dims("M"), -1), slices.Repeat([]string{outcome.Name(e)}, 11)...)
				continue
			}
			valid++
			for _, x := range []api.UnifyEq{bad, {}, eq("1; M"), eq("1 1 1; m^0"), eq("1 2/4 1; m m"), eq("1 1"), eq(over), eq("1 1 1")} {
				e := unify.Check(n, []api.UnifyEq{x})
				if e == api.OK {
					continue
				}
				got := outcomes(n, l, append(slices.Clone(l)[:min(len(l), 39)], x, bad), x, dims("m^0,M"), n)
				row(t, []string{got[1], got[4], got[7], got[8], got[9], got[10]}, "ErrValue", "ErrValue", outcome.Name(e), outcome.Name(e), outcome.Name(e), "ErrRange")
			}
		}
	}
	if valid < 20 {
		t.Error(valid)
	}
	// A contradiction comes before what is wrong with the number of dimensions, and before a number that is too large.
	row(t, outcomes(2, eqs("1/10 0; m^"+tens+", 0 0; m"), nil, eq(tens+" 0"), dims("m,s,"), 0), "OK", "ErrMany", "ErrClash", "ErrClash", "ErrClash", "1", "0 1", "true", "ErrClash", "false", "ErrClash")
	row(t, outcomes(2, eqs("1/10 0; m^"+tens), nil, eq(tens+" 0"), dims("m,s,"), 0), "OK", "ErrMany", "ErrLarge", "1", "ErrMany", "ErrNone", "ErrNone", "false", "ErrNone", "false", "ErrLarge")
}

// TestR2 is that nothing is remembered between calls, and that calls at the same time do not disturb each other.
func TestR2(t *testing.T) {
	s := sample{143, 5, 8, 2}
	first, second := s.system(9, 3), s.solvable(6)
	x := combined(5, second, s.exponents(6))
	dims := s.dimensions(5)
	want := slices.Concat(outcomes(5, first, second, x, dims, 3), outcomes(5, second, first, x, dims[:2], 0))
	var all sync.WaitGroup
	for range 8 {
		all.Go(func() {
			for range 5 {
				if got := slices.Concat(outcomes(5, first, second, x, dims, 3), outcomes(5, second, first, x, dims[:2], 0)); !slices.Equal(got, want) {
					t.Errorf("got %q, want %q", got, want)
				}
				outcomes(3, eqs(textU), eqs(textS), eq("1 1 1"), nil, 1)
			}
		})
	}
	all.Wait()
}

// TestR3 is that results are zero values if there is an error.
func TestR3(t *testing.T) {
	empty := func(size int, e api.Errno) {
		t.Helper()
		if e != api.OK && size != 0 {
			t.Error(size, e)
		}
	}
	large := [][]api.UnifyEq{eqs("1 0 0; m, 0 1/10 0; m^" + tens), eqs("1/10 0 0; m, " + tens + " 0 0; s"), eqs("1/10 0 0, 0 1 0")}
	for _, l := range append(oddSystems(), large...) {
		for _, dims := range oddDims() {
			holds, e := unify.Holds(3, l, dims)
			if e != api.OK && holds {
				t.Error(holds, e)
			}
			solved, e := unify.Instance(3, l, dims)
			empty(len(solved), e)
		}
		for _, x := range []api.UnifyEq{{}, eq("1 0 0"), eq(tens + " 0 0"), eq("1 1 1; M")} {
			follows, e := unify.Follows(3, l, x)
			same, f := unify.Same(3, l, []api.UnifyEq{x})
			if e != api.OK && follows || f != api.OK && same {
				t.Error(follows, e, same, f)
			}
			derived, e := unify.Derive(3, l, x)
			empty(len(derived), e)
		}
		answers, e := unify.Solve(3, l)
		empty(len(answers), e)
		free, e := unify.Free(3, l)
		empty(len(free), e)
		clash, e := unify.Clash(3, l)
		empty(len(clash), e)
		proof, e := unify.Proof(3, l)
		empty(len(proof), e)
		for v := -1; v < 4; v++ {
			only, e := unify.Only(3, l, v)
			empty(len(only), e)
		}
	}
	row(t, []string{answers(unify.Solve(3, large[0])), numbers(unify.Proof(3, large[1])), numbers(unify.Derive(3, large[2], eq(tens+" 0 0")))}, "ErrLarge", "ErrLarge", "ErrLarge")
}

// TestR4 is that no argument is changed, and that no result shares memory with an argument or another result.
func TestR4(t *testing.T) {
	whole, dims, x := append(eqs(textU), eqs("1 1 1; m s, x")...), dims("m s^2,s^2,s,kg"), eq("1 -1 0; m^-1")
	whole[0].Exps = append(make([]api.Rat, 0, 9), whole[0].Exps...)
	x.Exps, x.Dim = append(make([]api.Rat, 0, 9), x.Exps...), append(make([]api.Power, 0, 9), x.Dim...)
	l, given := whole[:2], dims[:3]
	arguments := func() []string {
		return []string{answers(whole, api.OK), solution(dims, api.OK), answers([]api.UnifyEq{x}, api.OK), answers([]api.UnifyEq{{Exps: x.Exps[:5]}, {Exps: whole[0].Exps[:5]}}, api.OK), outcome.WrittenDim(x.Dim[:5])}
	}
	untouched := arguments()
	before := slices.Concat(outcomes(3, l, whole[:4], x, given, 0), outcomes(3, whole[:4], l, x, dims[2:3], 0))
	changed := api.Power{Base: "changed"}
	solved := outcome.Must[[]api.UnifyEq](t)(unify.Solve(3, l))
	for i := range solved {
		_ = append(solved[i].Exps, q("7"))
		_ = append(solved[i].Dim, changed)
		solved[i].Exps[0] = q("7")
		if i == 0 {
			solved[i].Dim[0] = changed
		}
		row(t, []string{answers(solved[i+1:], api.OK)}, answers(outcome.Must[[]api.UnifyEq](t)(unify.Solve(3, l))[i+1:], api.OK))
	}
	values := outcome.Must[[][]api.Power](t)(unify.Instance(3, l, dims[2:3]))
	for i := range values {
		_ = append(values[i], changed)
		values[i][0] = changed
		row(t, []string{solution(values[i+1:], api.OK)}, solution(outcome.Must[[][]api.Power](t)(unify.Instance(3, l, dims[2:3]))[i+1:], api.OK))
	}
	outcome.Must[[]int](t)(unify.Clash(3, whole[:4]))[0] = 7
	outcome.Must[[]int](t)(unify.Free(3, l))[0] = 7
	outcome.Must[[]api.Rat](t)(unify.Proof(3, whole[:4]))[0] = q("7")
	outcome.Must[[]api.Rat](t)(unify.Derive(3, l, x))[0] = q("7")
	outcome.Must[[]api.Power](t)(unify.Only(3, whole[:3], 0))[0] = changed
	row(t, slices.Concat(outcomes(3, l, whole[:4], x, given, 0), outcomes(3, whole[:4], l, x, dims[2:3], 0)), before...)
	row(t, arguments(), untouched...)
}

// line returns an equation of 40 variables: one of them is another one, times a dimension.
func line(from, to int, dimension string) api.UnifyEq {
	x := api.UnifyEq{Exps: slices.Repeat(rats("0"), 40), Dim: d(dimension)}
	x.Exps[from] = q("1")
	if to >= 0 {
		x.Exps[to] = q("-1")
	}
	return x
}

// TestLong has as many variables and equations as there may be.
func TestLong(t *testing.T) {
	var chain []api.UnifyEq
	for v := range 39 {
		chain = append(chain, line(v, v+1, "m"))
	}
	last := line(39, -1, "s")
	var want []string
	for v := range 38 {
		want = append(want, "m^-"+strconv.Itoa(39-v)+" s^-1")
	}
	want = append(want, "m^-1 s^-1", "s^-1")
	row(t, []string{solution(unify.Instance(40, append(slices.Clone(chain), last), nil))}, strings.Join(want, ", "))
	row(t, []string{list(unify.Free(40, chain)), is(unify.Follows(40, chain, line(0, 39, "m^39"))), numbers(unify.Derive(40, chain, line(0, 39, "m^39")))}, "39", "true", strings.TrimSpace(strings.Repeat("1 ", 39)))
	// All of the chain is needed for the contradiction with its end.
	row(t, []string{list(unify.Clash(40, append(slices.Clone(chain), line(0, 39, "m^38")))), list(unify.Clash(40, append(slices.Clone(chain), line(0, 39, "m^39"))))}, list(upTo(40), api.OK), "ErrNone")
	row(t, []string{list(unify.Clash(40, append(slices.Clone(chain), line(20, 5, "m"))))}, "5 6 7 8 9 10 11 12 13 14 15 16 17 18 19 39")
	// Each equation is there twice, or with other numbers.
	var twice []api.UnifyEq
	for v := range 19 {
		twice = append(twice, line(v, v+1, "m"), combined(40, []api.UnifyEq{line(v, v+1, "m")}, rats("-3/2")))
	}
	twice = append(twice, line(0, 19, "s"))
	row(t, []string{list(unify.Clash(40, twice)), list(unify.Free(40, twice))}, "0 2 4 6 8 10 12 14 16 18 20 22 24 26 28 30 32 34 36 38", "ErrClash")
}

// TestManyWays has variables in rows of two, with all lines between neighbouring rows, so that there are very many shortest lists.
func TestManyWays(t *testing.T) {
	var l []api.UnifyEq
	for v := range 16 {
		l = append(l, line(v, v/2*2+2, "m"), line(v, v/2*2+3, "m"))
	}
	l = append(l, line(0, -1, "m"), line(17, -1, "s"))
	row(t, []string{list(unify.Clash(40, l))}, "0 4 8 12 16 20 24 29 32 33")
	// Numbers of which no few are related: all lists of 7 of the 6 variables that have the wrong one are as good.
	var generic []api.UnifyEq
	for i := range 24 {
		x := api.UnifyEq{Exps: make([]api.Rat, 6)}
		power := "1"
		for v := range 6 {
			x.Exps[v] = q(power)
			power = byhand.Mul(power, strconv.Itoa(i+2))
		}
		generic = append(generic, x)
	}
	generic[13].Dim = d("m")
	row(t, []string{list(unify.Clash(6, generic))}, "0 1 2 3 4 5 13")
	// Each of the numbers has 400 digits.
	seed := byhand.Chance(151)
	var large []api.UnifyEq
	for range 6 {
		x := api.UnifyEq{Exps: make([]api.Rat, 6)}
		for v := range x.Exps {
			x.Exps[v] = q(nines[:396] + strconv.Itoa(1000+seed.Below(9000)))
		}
		large = append(large, x)
	}
	large = append(large, combined(6, large, rats("0 1 -1 0 0 0")))
	large[6].Dim = d("kg")
	row(t, []string{list(unify.Clash(6, large)), numbers(unify.Proof(6, large))}, "1 2 6", "0 1 -1 0 0 0 -1")
}
