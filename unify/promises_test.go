package unify_test

import (
	"slices"
	"strings"
	"testing"

	"metewand/api"
	"metewand/internal/byhand"
	"metewand/internal/outcome"
	"metewand/unify"
)

// P5.1

func TestP5_01Check(t *testing.T) {
	many := func(size int, s string) []api.UnifyEq { return slices.Repeat(eqs(s), size) }
	wide := func(size int, s string) []api.UnifyEq {
		return []api.UnifyEq{{Exps: slices.Repeat(rats(s), size)}}
	}
	for i, x := range []struct {
		n    int
		eqs  []api.UnifyEq
		want api.Errno
	}{
		{0, nil, api.OK}, {40, nil, api.OK}, {3, eqs(textU), api.OK}, {0, eqs(";,; m"), api.OK}, {1, many(40, "1; m"), api.OK}, {40, wide(40, "-1/2"), api.OK}, {1, eqs("-" + nines + "/" + tens + "; m^1/" + nines), api.OK}, {2, eqs("0 0; a b c^-1/2 d"), api.OK},
		{-1, nil, api.ErrValue}, {-1 << 63, nil, api.ErrValue}, {41, nil, api.ErrValue}, {1<<63 - 1, many(41, ""), api.ErrValue}, {-1, many(41, "x"), api.ErrValue},
		{1, many(41, "1"), api.ErrMany}, {1, many(41, "x"), api.ErrMany}, {0, many(41, ""), api.ErrMany},
		{1, eqs(";"), api.ErrFew}, {2, eqs("1"), api.ErrFew}, {40, wide(39, "1"), api.ErrFew}, {2, eqs("x; M"), api.ErrFew}, {1, eqs("1 1"), api.ErrMany}, {0, eqs("x; M"), api.ErrMany}, {40, wide(41, "x"), api.ErrMany},
		{1, eqs("x"), api.ErrForm}, {1, eqs("2/4; M"), api.ErrForm}, {1, eqs("-0; M"), api.ErrForm}, {1, eqs("1/0"), api.ErrForm}, {2, eqs("1 x; m"), api.ErrForm}, {1, eqs(over + "; M"), api.ErrLarge}, {1, eqs("1/" + over), api.ErrLarge}, {2, eqs(over + " x"), api.ErrLarge}, {2, eqs("x " + over), api.ErrForm},
		{1, eqs("1; M"), api.ErrName}, {1, eqs("1; abcdefghi"), api.ErrName}, {1, eqs("1; s m"), api.ErrOrder}, {1, eqs("1; m m"), api.ErrOrder}, {1, eqs("1; m^0"), api.ErrValue}, {1, eqs("1; m^2/4"), api.ErrForm}, {1, eqs("0; m^" + over), api.ErrLarge},
		// Each equation is checked before the next one.
		{1, eqs("1; M, x"), api.ErrName}, {1, eqs("x, 1 1"), api.ErrForm}, {1, eqs("1 1, x"), api.ErrMany}, {1, eqs("1; m, 1; m^0, 1 1"), api.ErrValue},
	} {
		if e := unify.Check(x.n, x.eqs); e != x.want {
			t.Errorf("%d: %s, not %s", i, outcome.Name(e), outcome.Name(x.want))
		}
	}
}

func TestP5_01Holds(t *testing.T) {
	counts := map[bool]int{}
	for _, s := range []sample{{1, 3, 0, 2}, {2, 6, 0, 3}, {3, 2, 20, 1}} {
		for range 150 {
			dims := s.dimensions(s.variables)
			var l []api.UnifyEq
			for range s.Below(4) {
				exps := s.exponents(s.variables)
				l = append(l, api.UnifyEq{Exps: exps, Dim: productByHand(dims, negated(exps))})
			}
			if s.Below(2) == 0 {
				dims[s.Below(s.variables)] = s.dimension()
			}
			want := true
			for _, x := range l {
				want = want && len(productByHand(append(slices.Clone(dims), x.Dim), append(slices.Clone(x.Exps), q("1")))) == 0
			}
			counts[want]++
			row(t, []string{is(unify.Holds(s.variables, l, dims))}, is(want, api.OK))
		}
	}
	if counts[true] < 50 || counts[false] < 50 {
		t.Error(counts)
	}
}

func TestP5_01HoldsCases(t *testing.T) {
	holds := func(n int, l, s string) string { return is(unify.Holds(n, eqs(l), dims(s))) }
	row(t, []string{is(unify.Holds(0, nil, nil)), is(unify.Holds(0, eqs(";"), nil)), is(unify.Holds(0, eqs("; m"), nil)), holds(1, "0", "m"), holds(1, "0; m", ""), holds(1, "1; m", "m^-1"), holds(1, "1; m", ""), holds(2, "1 -1", "m,m"), holds(2, "1 -1, 0 1", "m,m"), holds(2, "1/2 1; m^-1", "m^2,")}, "true", "true", "false", "true", "false", "true", "false", "true", "false", "true")
	// Numbers on the way, and exponents of what is not none, may be of any size.
	row(t, []string{holds(2, tens+" -"+tens, "m^"+tens+",m^"+tens), holds(1, tens, "m^"+tens), holds(2, tens+" "+tens+"; s", "m^"+tens+",m^-"+tens)}, "true", "false", "false")
	// The dimensions come one by one, and then their number.
	row(t, []string{holds(1, "1", "m,M"), holds(1, "1", "m^0,M"), holds(3, "1 1 1", "m,s m"), holds(2, "1 1", "m"), holds(1, "1", "m,s"), is(unify.Holds(1, nil, nil)), holds(0, "", ""), holds(2, "1", "M")}, "ErrName", "ErrValue", "ErrOrder", "ErrFew", "ErrMany", "ErrFew", "ErrMany", "ErrFew")
}

// P5.2

func TestP5_02Solve(t *testing.T) {
	clashes := 0
	for _, s := range []sample{{11, 3, 0, 2}, {12, 5, 0, 3}, {13, 8, 0, 4}, {14, 4, 12, 2}, {15, 1, 0, 1}} {
		for range 100 {
			l := s.system(s.Below(8), 12)
			got, e := unify.Solve(s.variables, l)
			free, f := unify.Free(s.variables, l)
			if contradictsByHand(l) {
				clashes++
				row(t, []string{answers(got, e), list(free, f)}, "ErrClash", "ErrClash")
				continue
			}
			if e != api.OK || len(got) != s.variables {
				t.Fatal(answers(l, api.OK), answers(got, e))
			}
			row(t, []string{list(free, f)}, list(freeByHand(s.variables, l), api.OK))
			for v, x := range got {
				isFree := slices.Contains(free, v)
				for w, exp := range x.Exps {
					if exp != q("0") && (!slices.Contains(free, w) || isFree && w != v) || isFree && w == v && exp != q("1") {
						t.Fatal(answers(l, api.OK), answers(got, e))
					}
				}
				if isFree && len(x.Dim) > 0 {
					t.Fatal(answers(l, api.OK), answers(got, e))
				}
			}
			for _, x := range l {
				if !isNone(put(x, got)) {
					t.Fatal(answers(l, api.OK), answers(got, e))
				}
			}
		}
	}
	if clashes < 50 {
		t.Error(clashes)
	}
}

func TestP5_02Cases(t *testing.T) {
	solve := func(n int, s string) string {
		return answers(unify.Solve(n, eqs(s))) + "|" + list(unify.Free(n, eqs(s)))
	}
	row(t, []string{answers(unify.Solve(0, nil)), answers(unify.Solve(2, nil)), list(unify.Free(0, nil)), list(unify.Free(2, nil)), answers(unify.Solve(0, eqs(";")))}, "", "1 0, 0 1", "", "0 1", "")
	row(t, []string{solve(2, "0 0"), solve(2, "0 0; m"), solve(2, "0 1; m"), solve(2, "1 1; m"), solve(2, "-2 3; m^5 s"), solve(3, "0 1 1, 1 1 1"), solve(3, "0 2 1; m, 0 1 2; s"), solve(1, "2; m, 3; m^3/2"), solve(1, "2; m, 3; m")}, "1 0, 0 1|0 1", "ErrClash|ErrClash", "1 0, 0 0; m^-1|0", "0 -1; m^-1, 0 1|1", "0 3/2; m^5/2 s^1/2, 0 1|1", "0 0 0, 0 0 -1, 0 0 1|2", "1 0 0, 0 0 0; m^-2/3 s^1/3, 0 0 0; m^1/3 s^-2/3|0", "0; m^-1/2|", "ErrClash|ErrClash")
	// An exponent of 401 digits; longer ones on the way.
	row(t, []string{solve(1, "1/10; m^"+tens), solve(1, "1/9; m^"+tens), solve(2, "1/10 "+tens), solve(2, "1/9 "+tens), solve(3, "1 "+tens+" 0, 0 1 -"+tens), solve(3, "1 "+tens+" 0, 0 1 -"+tens+", 0 0 1; m^1/"+tens), solve(2, "1 "+nines+"; m, 1 "+nines+"; s")}, "ErrLarge|", "0; m^-9"+tens[1:]+"|", "ErrLarge|1", "0 -9"+tens[1:]+", 0 1|1", "ErrLarge|2", "0 0 0; m^"+tens+", 0 0 0; m^-1, 0 0 0; m^-1/"+tens+"|", "ErrClash|ErrClash")
}

// P5.3

func TestP5_03Instance(t *testing.T) {
	for _, s := range []sample{{21, 3, 0, 2}, {22, 6, 0, 3}, {23, 3, 20, 2}} {
		for range 100 {
			l := s.solvable(s.Below(6))
			free := outcome.Must[[]int](t)(unify.Free(s.variables, l))
			given := s.dimensions(len(free))
			var want []string
			for _, x := range outcome.Must[[]api.UnifyEq](t)(unify.Solve(s.variables, l)) {
				all, exps := [][]api.Power{x.Dim}, rats("1")
				for i, v := range free {
					all, exps = append(all, given[i]), append(exps, x.Exps[v])
				}
				want = append(want, outcome.WrittenDim(productByHand(all, exps)))
			}
			row(t, []string{solution(unify.Instance(s.variables, l, given))}, outcome.Of(api.OK, want...))
		}
	}
}

func TestP5_03Cases(t *testing.T) {
	instance := func(n int, l string, dims ...[]api.Power) string {
		return solution(unify.Instance(n, eqs(l), dims))
	}
	row(t, []string{solution(unify.Instance(0, nil, nil)), solution(unify.Instance(2, nil, dims("m,s"))), instance(2, "1 1", d("a z")), instance(2, "1 -1; m", d("m^-1")), instance(3, "0 1 0; m", d("s"), nil)}, "", "m, s", "a^-1 z^-1, a z", "m^-2, m^-1", "s, m^-1, ")
	// A contradiction comes before a wrong number of dimensions, and behind their errors.
	row(t, []string{instance(1, "0; m"), instance(1, "0; m", d("m"), d("s")), instance(1, "0; m", d("M")), instance(1, "1; m", d("m"), d("m^0")), instance(1, "1; m", d("m")), instance(2, "1 1"), instance(2, "1 1", nil, nil), instance(2, "1 1", nil, d("s m")), instance(2, "1", nil, d("s m"))}, "ErrClash", "ErrClash", "ErrName", "ErrValue", "ErrMany", "ErrFew", "ErrMany", "ErrOrder", "ErrFew")
	// Only the result has to fit.
	long := "1 -" + tens + " 0, 0 1 -" + tens
	row(t, []string{instance(3, long), instance(3, long, nil), instance(3, long, d("m")), instance(3, long, d("m^1/"+tens)), instance(2, "1 1/"+nines+"; m^"+nines, d("m^"+nines)), instance(2, "1 1/"+nines+"; m^"+nines, d("m^-"+nines))}, "ErrFew", ", , ", "ErrLarge", "m^"+tens+", m, m^1/"+tens, "ErrLarge", "m^-"+nines[1:]+"8, m^-"+nines)
}

// P5.4

func TestP5_04Clash(t *testing.T) {
	sizes := map[int]int{}
	for _, s := range []sample{{31, 2, 0, 1}, {32, 3, 0, 2}, {33, 4, 0, 2}, {34, 6, 0, 3}, {35, 3, 12, 2}, {36, 7, 0, 4}} {
		for range 60 {
			l := s.system(s.Below(9), 6)
			want := clashByHand(l)
			sizes[len(want)]++
			got, e := unify.Clash(s.variables, l)
			proof, f := unify.Proof(s.variables, l)
			if want == nil {
				row(t, []string{list(got, e), numbers(proof, f)}, "ErrNone", "ErrNone")
				continue
			}
			row(t, []string{list(got, e), outcome.Name(f)}, list(want, api.OK), "OK")
			proves(t, s.variables, l, want, proof)
		}
	}
	for size := range 5 {
		if sizes[size] < 5 {
			t.Error(sizes)
		}
	}
}

// proves reports a proof that is none, or not the one that a list has.
func proves(t *testing.T, variables int, l []api.UnifyEq, list []int, proof []api.Rat) {
	t.Helper()
	if len(proof) != len(l) || proof[list[0]] != q("1") {
		t.Fatal(list, proof)
	}
	for i, exp := range proof {
		if (exp != q("0")) != slices.Contains(list, i) {
			t.Fatal(list, proof)
		}
	}
	product := combined(variables, l, proof)
	if len(product.Dim) == 0 || slices.ContainsFunc(product.Exps, func(exp api.Rat) bool { return exp != q("0") }) {
		t.Fatal(list, proof, product)
	}
}

func TestP5_04Cases(t *testing.T) {
	clash := func(n int, s string) string {
		return list(unify.Clash(n, eqs(s))) + "|" + numbers(unify.Proof(n, eqs(s)))
	}
	row(t, []string{list(unify.Clash(0, nil)), numbers(unify.Proof(0, nil)), list(unify.Clash(40, nil)), clash(1, "0"), clash(1, "1; m"), clash(2, "1 1; m, 2 2; m^2")}, "ErrNone", "ErrNone", "ErrNone", "ErrNone|ErrNone", "ErrNone|ErrNone", "ErrNone|ErrNone")
	row(t, []string{clash(0, "; m"), clash(0, ";,; m,; s"), clash(1, "1; m, 1; m, 1; s, 1; s"), clash(1, "1; m, 2; m^2, 2; m, 3; m"), clash(2, "1 1, 1 -1, 1 0; m"), clash(2, "1 1, 1 -1, 1 0; m, 0 2, 0 1; s")}, "0|1", "1|0 1 0", "0 2|1 0 -1 0", "0 2|1 0 -1/2 0", "0 1 2|1 1 -2", "3 4|0 0 0 1 -2")
	// A shorter list comes before one with lesser numbers, of equal ones the lesser one.
	row(t, []string{clash(3, "1 -1 0, 0 1 -1, 1 0 -1; m, 0 0 1, 0 0 1; s"), clash(3, "1 -1 0, 0 1 -1, 1 0 -1; m, 1 0 -1; m"), clash(3, "1 -1 0, 0 1 -1, 1 0 -1, 1 0 -1; m"), clash(2, "1 0, 0 1, 0 1; m, 1 0; m"), clash(2, "1 0, 0 1, 0 2, 0 3; m, 1 0; m")}, "3 4|0 0 0 1 -1", "0 1 2|1 1 -1 0", "2 3|0 0 1 -1", "0 3|1 0 0 -1", "0 4|1 0 0 0 -1")
	// Which of several bases is left does not matter, nor that one is left only by a part.
	row(t, []string{clash(1, "1; a, 1; a b, 1; a b c"), clash(2, "1 0; a b, 0 1; a b, 1 1; a^2 b^3, 1 0; a c"), clash(2, "1 0; a, 1 0; b, 0 1; c, 0 1; d")}, "0 1|1 -1 0", "0 3|1 0 0 -1", "0 1|1 -1 0 0")
	// Clash returns no large number; Proof's may be too large.
	less := nines[1:] + "8"
	row(t, []string{clash(2, nines+" 1, 1 "+nines+", 1 1; m"), clash(2, less+" 1, 1 "+less+", 1 1; m"), clash(2, tens+" 1, 1 0; m, 0 1/10; s"), clash(1, "1/10; m, "+tens), clash(1, "1/9; m, "+tens)}, "0 1 2|ErrLarge", "0 1 2|1 1 -"+nines, "0 1 2|1 -"+tens+" -10", "0 1|ErrLarge", "0 1|1 -1/9"+tens[1:])
}

// firstPrimes are those that the search uses first; this one shows what it does with numbers that they divide.
var firstPrimes = strings.Fields("9223372036854775783 9223372036854775643 9223372036854775549 9223372036854775507")

// TestP5_04Primes has systems that look otherwise modulo the primes of the search.
func TestP5_04Primes(t *testing.T) {
	product := "1"
	for _, p := range firstPrimes {
		product = byhand.Mul(product, p)
		clash := func(n int, s string) string {
			return list(unify.Clash(n, eqs(strings.ReplaceAll(s, "P", product))))
		}
		row(t, []string{
			clash(0, "; m^P, ; m"), clash(0, "; m^P s^P, ; m s"), clash(0, "; m^1/P, ; m"), clash(1, "1; m^P, 1, 1; m"),
			clash(1, "P; m, 0; s"), clash(1, "P; m, 1, 1; s"), clash(1, "1/P; m, 1, 2; s"), clash(2, "1 P, 1 0, 0 1; m, 1 0; s"),
			clash(2, "P 1; m, 0 1, 1 0, 1 0; m"), clash(2, "1 0; m, P 1; m^P, 0 1; s, 0 1; s^2"), clash(2, "P P; m, 1 0, 0 1; m, 1 1"),
		}, "0", "0", "0", "0 1", "1", "0 1", "0 1", "1 3", "2 3", "2 3", "0 3")
	}
}

// P5.5

func TestP5_05Follows(t *testing.T) {
	counts := map[string]int{}
	for _, s := range []sample{{41, 3, 0, 2}, {42, 5, 0, 3}, {43, 3, 12, 2}} {
		for range 150 {
			l := s.system(s.Below(6), 30)
			exps := s.exponents(len(l))
			x := combined(s.variables, l, exps)
			if s.Below(2) == 0 {
				x = api.UnifyEq{Exps: s.exponents(s.variables), Dim: s.dimension()}
			}
			follows, e := unify.Follows(s.variables, l, x)
			got, f := unify.Derive(s.variables, l, x)
			if contradictsByHand(l) {
				counts["clash"]++
				row(t, []string{is(follows, e), numbers(got, f)}, "true", "ErrClash")
				continue
			}
			if byhand.Rank(rows(append(slices.Clone(l), x), true)) > byhand.Rank(rows(l, true)) {
				counts["none"]++
				row(t, []string{is(follows, e), numbers(got, f)}, "false", "ErrNone")
				continue
			}
			counts["some"]++
			row(t, []string{is(follows, e), outcome.Name(f), answers([]api.UnifyEq{combined(s.variables, l, got)}, api.OK)}, "true", "OK", answers([]api.UnifyEq{x}, api.OK))
			for i, depends := range dependsByHand(l) {
				if depends && got[i] != q("0") {
					t.Error(answers(l, api.OK), got)
				}
			}
		}
	}
	if counts["clash"] < 10 || counts["none"] < 50 || counts["some"] < 50 {
		t.Error(counts)
	}
}

func TestP5_05Cases(t *testing.T) {
	both := func(n int, l []api.UnifyEq, x string) string {
		return is(unify.Follows(n, l, eq(x))) + "|" + numbers(unify.Derive(n, l, eq(x)))
	}
	row(t, []string{both(0, nil, ""), both(0, nil, "; m"), both(0, eqs(";"), ""), both(0, eqs("; m"), "; s"), both(1, nil, "0"), both(1, nil, "1"), both(1, nil, "0; m")}, "true|", "false|ErrNone", "true|0", "true|ErrClash", "true|", "false|ErrNone", "false|ErrNone")
	row(t, []string{both(2, eqs("1 0; m, 0 1; s"), "2 -1; m^2 s^-1"), both(2, eqs("1 0; m, 0 1; s"), "2 -1; m^2 s"), both(2, eqs("1 1; m, 2 2; m^2, 1 -1"), "1 0; m^1/2"), both(2, eqs("0 0, 1 1; m, 1 1; m"), "1 1; m"), both(2, eqs("1 1; m"), "1 0"), both(1, eqs("1; m, 1; s"), "1; kg")}, "true|2 -1", "false|ErrNone", "true|1/2 0 1/2", "true|0 1 0", "false|ErrNone", "true|ErrClash")
	row(t, []string{both(1, eqs("1"), "1 1"), both(2, eqs("1 1"), "1"), both(1, eqs("1"), "2/4; M"), both(1, eqs("1"), "1; M"), both(1, eqs("0; m"), "1; m^0"), both(1, eqs("0; m"), over), both(1, eqs("x"), "1 1")}, "ErrMany|ErrMany", "ErrFew|ErrFew", "ErrForm|ErrForm", "ErrName|ErrName", "ErrValue|ErrValue", "ErrLarge|ErrLarge", "ErrForm|ErrForm")
	// Follows returns no number; Derive's may be too large.
	row(t, []string{both(1, eqs("1/10"), tens), both(1, eqs("1/9"), tens), both(1, eqs("1/10, 0; m"), tens), both(1, eqs("1/10"), tens+"; m"), both(3, eqs("1 "+tens+" 0, 0 1 "+tens+", 0 0 1; m"), "1 0 0; m^1"+strings.Repeat("0", 399))}, "true|ErrLarge", "true|9"+tens[1:], "true|ErrClash", "false|ErrNone", "false|ErrNone")
}

// P5.6

func TestP5_06Same(t *testing.T) {
	counts := map[bool]int{}
	for _, s := range []sample{{51, 3, 0, 2}, {52, 4, 0, 3}, {53, 2, 12, 1}} {
		for range 150 {
			l := s.system(s.Below(5), 20)
			var other []api.UnifyEq
			for range len(l) + s.Below(2) {
				other = append(other, combined(s.variables, l, s.exponents(len(l))))
			}
			if s.Below(3) == 0 {
				other = s.system(s.Below(5), 20)
			}
			first, second, both := byhand.Rank(rows(l, true)), byhand.Rank(rows(other, true)), byhand.Rank(rows(append(slices.Clone(l), other...), true))
			want := first == both && second == both
			if contradictsByHand(l) || contradictsByHand(other) {
				want = contradictsByHand(l) && contradictsByHand(other)
			}
			counts[want]++
			row(t, []string{is(unify.Same(s.variables, l, other)), is(unify.Same(s.variables, other, l))}, is(want, api.OK), is(want, api.OK))
		}
	}
	if counts[true] < 50 || counts[false] < 50 {
		t.Error(counts)
	}
}

func TestP5_06Cases(t *testing.T) {
	same := func(n int, l, others string) string { return is(unify.Same(n, eqs(l), eqs(others))) }
	row(t, []string{is(unify.Same(0, nil, nil)), is(unify.Same(2, nil, eqs("0 0"))), is(unify.Same(2, nil, eqs("1 0"))), is(unify.Same(1, nil, eqs("0; m"))), same(0, "; m", "; s"), same(1, "1; m", "2; m^2"), same(1, "1; m", "1; s"), same(1, "1; m, 1; s", "0; kg"), same(1, "1; m, 1; s", "1; m"), same(2, "1 0, 0 1", "1 1, 1 -1"), same(2, "1 1", "1 1, 1 -1"), same(2, "1 0; m", "0 1; m"), same(1, "1; a", "1; b")}, "true", "true", "false", "false", "true", "true", "false", "true", "false", "true", "false", "false", "false")
	row(t, []string{same(1, "1; m^0", "1 1"), same(1, "1", "1 1"), same(2, "1 1", "1"), same(1, "1", "x"), same(1, "1", "1; M"), is(unify.Same(1, nil, slices.Repeat(eqs("1"), 41))), is(unify.Same(41, nil, nil))}, "ErrValue", "ErrMany", "ErrFew", "ErrForm", "ErrName", "ErrMany", "ErrValue")
	row(t, []string{same(2, "1 "+nines+"; m, 0 1; m", "1 0; m^-"+nines+", 0 1; m"), same(2, "1 "+nines+"; m, 0 1; m", "1 0; m^-"+nines[1:]+"8, 0 1; m"), same(2, nines+" "+tens+", "+tens+" "+nines, "1 0, 0 1"), same(2, nines+" "+tens, tens+" "+nines)}, "false", "true", "true", "false")
}

// P5.7

func TestP5_07Only(t *testing.T) {
	counts := map[string]int{}
	for _, s := range []sample{{61, 3, 0, 2}, {62, 5, 0, 3}, {63, 3, 12, 2}} {
		for range 120 {
			l := s.system(s.Below(7), 30)
			for v := range s.variables {
				got, e := unify.Only(s.variables, l, v)
				if contradictsByHand(l) {
					counts["clash"]++
					row(t, []string{one(got, e)}, "ErrClash")
					continue
				}
				// It is the same just if the variable alone, with some dimension, follows from the exponents.
				alone := api.UnifyEq{Exps: slices.Repeat(rats("0"), s.variables)}
				alone.Exps[v] = q("1")
				if byhand.Rank(rows(append(slices.Clone(l), alone), false)) > byhand.Rank(rows(l, false)) {
					counts["none"]++
					row(t, []string{one(got, e)}, "ErrNone")
					continue
				}
				counts["one"]++
				alone.Dim = productByHand([][]api.Power{got}, rats("-1"))
				if e != api.OK || byhand.Rank(rows(append(slices.Clone(l), alone), true)) > byhand.Rank(rows(l, true)) {
					t.Error(answers(l, api.OK), v, one(got, e))
				}
			}
		}
	}
	if counts["clash"] < 10 || counts["none"] < 50 || counts["one"] < 50 {
		t.Error(counts)
	}
}

func TestP5_07Cases(t *testing.T) {
	only := func(n int, l string, v int) string { return one(unify.Only(n, eqs(l), v)) }
	row(t, []string{only(2, "1 0; m, 0 2; m", 0), only(2, "1 0; m, 0 2; m", 1), only(2, "1 1, 1 -1", 0), only(3, "1 1 0, 1 1 1; m", 2), only(3, "1 1 0, 1 1 1; m", 0), only(3, "1 1 0, 1 1 1; m", 1), only(1, "0", 0), one(unify.Only(1, nil, 0))}, "m^-1", "m^-1/2", "", "m^-1", "ErrNone", "ErrNone", "ErrNone", "ErrNone")
	row(t, []string{only(1, "0; m", 0), only(1, "0; m", 1), only(1, "0; m", -1), one(unify.Only(0, nil, 0)), one(unify.Only(1, nil, 1<<63-1)), one(unify.Only(1, nil, -1<<63)), only(1, "1; m^0", 7)}, "ErrClash", "ErrRange", "ErrRange", "ErrRange", "ErrRange", "ErrRange", "ErrValue")
	// Only the dimension that is asked for has to fit.
	long := "1/10 0 0; m^" + tens + ", 0 1 " + tens + ", 0 " + tens + " -1"
	row(t, []string{only(3, long, 0), only(3, long, 1), only(3, long, 2), only(3, "1 0 "+tens+", 0 1 "+tens+", 0 0 "+tens+"; m^"+tens, 0), only(2, "1 "+nines+"; m, 1 "+nines+"; m", 0)}, "ErrLarge", "", "", "m^"+tens, "ErrNone")
}
