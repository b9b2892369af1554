package dim_test

import (
	"slices"
	"strings"
	"testing"

	"metewand/api"
	"metewand/dim"
	"metewand/internal/byhand"
)

// P3.9

func TestP3_09Group(t *testing.T) {
	for _, s := range []sample{{61, 2, 8}, {62, 12, 4}, {63, 60, 2}} {
		for range 100 {
			get := must[[]api.Power](t)
			mul := func(a, b []api.Power) []api.Power { return get(dim.Mul(a, b)) }
			div := func(a, b []api.Power) []api.Power { return get(dim.Div(a, b)) }
			pow := func(a []api.Power, n api.Rat) []api.Power { return get(dim.Pow(a, n)) }
			a, b, c, exps := s.dimension(), s.dimension(), s.dimension(), s.exponents(2)
			m, n := exps[0], exps[1]
			sum, product := byhand.Reduced(byhand.Plus(m, n)), byhand.Reduced(byhand.Times(m, n))
			for i, x := range [][2][]api.Power{
				{mul(a, b), mul(b, a)}, {mul(mul(a, b), c), mul(a, mul(b, c))}, {mul(a, nil), a}, {div(a, a), nil}, {div(mul(a, b), b), a}, {mul(div(a, b), b), a}, {div(a, b), mul(a, pow(b, q("-1")))},
				{pow(mul(a, b), n), mul(pow(a, n), pow(b, n))}, {pow(a, sum), mul(pow(a, m), pow(a, n))}, {pow(a, product), pow(pow(a, m), n)}, {pow(a, q("1")), a}, {pow(a, q("0")), nil},
				{get(dim.Product([][]api.Power{a, b, c}, rats("1 1 1"))), mul(mul(a, b), c)}, {get(dim.Product([][]api.Power{a, b}, exps)), mul(pow(a, m), pow(b, n))}, {get(dim.Product([][]api.Power{b, a}, []api.Rat{n, m})), mul(pow(a, m), pow(b, n))},
			} {
				if !slices.Equal(x[0], x[1]) || dim.Check(x[0]) != api.OK {
					t.Fatal(i, a, b, c, exps, x)
				}
			}
			if is, e := dim.Same(a, b); e != api.OK || is != (len(div(a, b)) == 0) {
				t.Error(a, b, is, e)
			}
			if x, e := dim.Exp(mul(a, b), "m"); e != api.OK || x != byhand.Reduced(byhand.Plus(must[api.Rat](t)(dim.Exp(a, "m")), must[api.Rat](t)(dim.Exp(b, "m")))) {
				t.Error(a, b, x, e)
			}
		}
	}
}

// P3.10

func TestP3_10Print(t *testing.T) {
	for _, s := range []sample{{71, 2, 8}, {72, 20, 8}, {73, 180, 1}} {
		for range 200 {
			a := s.dimension()
			text, e := dim.Print(a)
			if got, f := dim.Parse(text); e != api.OK || f != api.OK || !slices.Equal(got, a) {
				t.Fatal(a, text, e, got, f)
			}
			// The factors in any order, one of them in two parts.
			factors := strings.Split(text, "*")
			for i := range factors {
				j := s.Below(i + 1)
				factors[i], factors[j] = factors[j], factors[i]
			}
			if len(a) > 0 {
				factors = append(factors, "b^7/3")
				factors = slices.Insert(factors, s.Below(len(factors)), "b^-7/3")
			}
			got, f := dim.Parse(strings.Join(factors, "*"))
			again, e := dim.Print(got)
			if f != api.OK || e != api.OK || again != text {
				t.Fatal(factors, got, again)
			}
		}
	}
}

// P3.11

func TestP3_11Express(t *testing.T) {
	for _, s := range []sample{{81, 1, 3}, {82, 2, 8}, {83, 40, 3}} {
		for range 150 {
			l, a := s.list(s.Below(6)), s.dimension()
			before, after := must[int](t)(dim.Rank(l)), must[int](t)(dim.Rank(append(slices.Clone(l), a)))
			exps, e := dim.Express(l, a)
			if e == api.ErrLarge {
				continue
			}
			if (e == api.OK) != (after == before) || e != api.OK && e != api.ErrNone {
				t.Fatal(l, a, exps, e, before, after)
			}
			if e == api.OK && !slices.Equal(must[[]api.Power](t)(dim.Product(l, exps)), a) {
				t.Fatal(l, a, exps)
			}
		}
	}
}

// P3.12

func TestP3_12Groups(t *testing.T) {
	for _, s := range []sample{{91, 1, 3}, {92, 2, 8}} {
		for range 150 {
			l := s.list(s.Below(7))
			groups := must[[][]api.Rat](t)(dim.Groups(l))
			if must[int](t)(dim.Rank(l))+len(groups) != len(l) {
				t.Fatal(l, groups)
			}
			for _, g := range groups {
				if p := must[[]api.Power](t)(dim.Product(l, g)); len(p) > 0 {
					t.Fatal(l, g, p)
				}
			}
			combined(t, &s, l, groups)
		}
	}
}

// combined takes exponents by which a product has no dimension, and finds them again as the sum of groups.
func combined(t *testing.T, s *sample, l [][]api.Power, groups [][]api.Rat) {
	t.Helper()
	exps := slices.Repeat(rats("0"), len(l))
	if len(l) > 0 {
		// Any exponents, and then those that undo what they make.
		chosen := s.exponents(len(l))
		undo := must[[]api.Rat](t)(dim.Express(l, productByHand(l, chosen)))
		for i := range l {
			exps[i] = byhand.Reduced(byhand.Plus(chosen[i], byhand.Negated(undo[i])))
		}
	}
	if !isNone(l, exps) {
		t.Fatal(l, exps)
	}
	sum := slices.Repeat(rats("0"), len(l))
	next := 0
	for i, is := range dependent(l) {
		if !is {
			continue
		}
		for j, x := range groups[next] {
			sum[j] = byhand.Reduced(byhand.Plus(sum[j], byhand.Reduced(byhand.Times(x, exps[i]))))
		}
		next++
	}
	if !slices.Equal(sum, exps) {
		t.Fatal(l, exps, sum)
	}
}

// P3.13

func TestP3_13Order(t *testing.T) {
	for _, s := range []sample{{101, 1, 3}, {102, 2, 8}, {103, 60, 3}} {
		for range 100 {
			l := s.list(s.Below(7))
			rank := func(l [][]api.Power) int { return must[int](t)(dim.Rank(l)) }
			n := rank(l)
			other := slices.Clone(l)
			for i := range other {
				j := s.Below(i + 1)
				other[i], other[j] = other[j], other[i]
			}
			if rank(other) != n {
				t.Fatal(l, n, other)
			}
			if more := rank(append(slices.Clone(l), s.dimension())); more != n && more != n+1 {
				t.Fatal(l, n, more)
			}
			product := productByHand(l, s.exponents(len(l)))
			if fits(product) && rank(slices.Insert(other, s.Below(len(l)+1), product)) != n {
				t.Fatal(l, n, product)
			}
		}
	}
}

// P3.14

func TestP3_14Rebase(t *testing.T) {
	for _, s := range []sample{{111, 2, 8}, {112, 20, 4}} {
		for range 100 {
			get := must[[]api.Power](t)
			bases := func(names string) []api.DimBase {
				var l []api.DimBase
				for name := range strings.FieldsSeq(names) {
					l = append(l, api.DimBase{Base: name, Dim: s.dimension()})
				}
				return l
			}
			first, second := bases("m a kg"), bases("kg cd abcdefgh m z")
			rebase := func(a []api.Power, bases []api.DimBase) []api.Power { return get(dim.Rebase(a, bases)) }
			a, b, n := s.dimension(), s.dimension(), s.exponent()
			// One list that does what both do: the second one for what is not in the first one.
			both := slices.Clone(first)
			for i, x := range both {
				both[i].Dim = rebase(x.Dim, second)
			}
			for _, x := range second {
				if !slices.ContainsFunc(first, func(y api.DimBase) bool { return y.Base == x.Base }) {
					both = append(both, x)
				}
			}
			for i, x := range [][2][]api.Power{
				{rebase(get(dim.Mul(a, b)), first), get(dim.Mul(rebase(a, first), rebase(b, first)))},
				{rebase(get(dim.Pow(a, n)), first), get(dim.Pow(rebase(a, first), n))},
				{rebase(a, nil), a},
				{rebase(rebase(a, first), second), rebase(a, both)},
			} {
				if !slices.Equal(x[0], x[1]) {
					t.Fatal(i, a, b, first, second, x)
				}
			}
		}
	}
}
