package dim_test

import (
	"slices"
	"strings"
	"sync"
	"testing"

	"metewand/api"
	"metewand/dim"
	"metewand/internal/byhand"
	"metewand/internal/outcome"
)

// odd returns dimensions of all kinds, valid ones and others.
func odd() [][]api.Power {
	all := dims(",m,m s,s m,m m,M,m^0,m^2/4,m^x,kg m^2 s^-3/2,abcdefgh^1/2,abcdefghi,m^-0,a^" + nines + " b^-1/" + nines + ",m^" + over + ",m s^0,m M")
	return append(all, []api.Power{{}}, []api.Power{{Base: "m"}}, []api.Power{{Base: "\xff\x00", Exp: q("1")}}, slices.Repeat(d("m"), 50), []api.Power{{Base: strings.Repeat("z", 3000), Exp: api.Rat{Num: strings.Repeat("-", 500), Den: "1"}}})
}

// oddNumbers returns numbers of all kinds, valid ones and others.
func oddNumbers() []api.Rat {
	return append(rats("0 1 -1 1/2 -7/3 2/4 x 1/0 "+nines+" -1/"+nines+" "+over), api.Rat{}, api.Rat{Num: "1"}, api.Rat{Den: "\xff"})
}

func oddTexts() []string {
	return []string{"", "1", "m", "m*s", "m^1/2*s^-3", "s*m^0", "M", "m^", "*", "\xff", "m^\x00", "abcdefghi", strings.Repeat("m*", 200), strings.Repeat("^", 5000), "m^" + nines[:398]}
}

// TestP1NoPanic: each function returns, whatever its arguments are.
func TestP1NoPanic(t *testing.T) {
	seed := byhand.Chance(121)
	all, numbers, texts := odd(), oddNumbers(), oddTexts()
	for _, a := range all {
		for _, b := range all {
			l := [][]api.Power{all[seed.Below(len(all))], b, a}[:seed.Below(4)]
			exps := []api.Rat{numbers[seed.Below(len(numbers))], numbers[seed.Below(len(numbers))], numbers[seed.Below(len(numbers))]}[:seed.Below(4)]
			outcomes(a, b, l, exps, texts[seed.Below(len(texts))])
			outcomes(a, b, nil, exps[:0], texts[seed.Below(len(texts))])
		}
	}
}

// TestR1 is the order of errors: of the first dimension, number or base, of the next ones, those that the promises name, ErrLarge.
func TestR1(t *testing.T) {
	for _, a := range odd() {
		first := dim.Check(a)
		for _, b := range odd() {
			want := first
			if want == api.OK {
				want = dim.Check(b)
			}
			if want == api.OK {
				continue
			}
			name := outcome.Name(want)
			l := [][]api.Power{nil, a, b}
			row(t, []string{same(dim.Same(a, b)), one(dim.Mul(a, b)), one(dim.Div(a, b)), one(dim.Product(l, nil)), one(dim.Product(l, rats("x"))), rank(dim.Rank(l)), list(dim.Express(l[:2], b)), list(dim.Express(l[1:], d("M"))), lists(dim.Groups(l)), one(dim.Rebase(a, []api.DimBase{{Base: "m", Dim: b}, {}}))}, slices.Repeat([]string{name}, 10)...)
		}
		if first != api.OK {
			row(t, []string{one(dim.Pow(a, q("x"))), exponent(dim.Exp(a, "")), one(dim.Rebase(a, standIns("M=M"))), text(dim.Print(a))}, slices.Repeat([]string{outcome.Name(first)}, 4)...)
		}
	}
	for _, n := range oddNumbers() {
		_, want := dim.Pow(nil, n)
		_, got := dim.Product(dims("m"), []api.Rat{q("1"), n})
		if want == api.OK {
			want = api.ErrMany
		}
		if got != want {
			t.Error(n, got, want)
		}
	}
	// An error that a promise names comes before a result that is too large.
	row(t, []string{list(dim.Express(dims("m^1/10"), d("m^"+tens+" s"))), one(dim.Product(dims("m^"+nines+",m"), rats("1 1 1"))), one(dim.Product(dims("m^"+nines+",m"), rats("1 1")))}, "ErrNone", "ErrMany", "ErrLarge")
}

// TestR2 is that nothing is remembered between calls, and that calls at the same time do not disturb each other.
func TestR2(t *testing.T) {
	s := sample{122, 150, 8}
	a, b, l := s.dimension(), s.dimension(), s.list(5)
	exps := s.exponents(5)
	want := outcomes(a, b, l, exps, "kg")
	var all sync.WaitGroup
	for range 8 {
		all.Go(func() {
			for range 3 {
				if got := outcomes(a, b, l, exps, "kg"); !slices.Equal(got, want) {
					t.Errorf("got %q, want %q", got, want)
				}
				outcomes(b, a, l[:2], exps[:2], "m*s^-1")
			}
		})
	}
	all.Wait()
}

// TestR3 is that results are zero values if there is an error.
func TestR3(t *testing.T) {
	empty := func(size int, e api.Errno) {
		t.Helper()
		if size != 0 || e == api.OK {
			t.Error(size, e)
		}
	}
	dimension := func(d []api.Power, e api.Errno) { t.Helper(); empty(len(d), e) }
	bad, long := d("m s^0"), d("a m^"+nines)
	dimension(dim.Mul(d("m"), bad))
	dimension(dim.Mul(long, d("m")))
	dimension(dim.Div(bad, nil))
	dimension(dim.Div(long, d("m^-1")))
	dimension(dim.Pow(d("m"), q("x")))
	dimension(dim.Pow(long, q("2")))
	dimension(dim.Product(dims("m"), nil))
	dimension(dim.Product([][]api.Power{long, d("m")}, rats("1 1")))
	dimension(dim.Rebase(d("m"), standIns("s=m", "s=m")))
	dimension(dim.Rebase(long, standIns("a=m")))
	dimension(dim.Parse("a*m^"))
	if x, e := dim.Exp(d("m"), "M"); x != (api.Rat{}) || e != api.ErrName {
		t.Error(x, e)
	}
	if is, e := dim.Same(bad, bad); is || e != api.ErrValue {
		t.Error(is, e)
	}
	s, e := dim.Print(long)
	empty(len(s), e)
	n, e := dim.Rank([][]api.Power{d("m"), bad})
	empty(n, e)
	exps, e := dim.Express(dims("m,s"), d("kg"))
	empty(len(exps), e)
	exps, e = dim.Express(dims("s,m^1/10"), d("s m^"+tens))
	empty(len(exps), e)
	groups, e := dim.Groups(dims("s,s,m^1/10,m^" + tens))
	empty(len(groups), e)
}

// TestR4 is that no argument is changed, and that no result shares memory with an argument or another result.
func TestR4(t *testing.T) {
	a, b, whole := d("kg m^2 s^-1"), d("m s^3"), dims("m,s,m s,m^2,kg")
	exps := rats("1 -2 3 1/2 7")
	bases := standIns("m=a b", "s=m")
	want := []string{outcome.WrittenDim(a), outcome.WrittenDim(b)}
	for _, x := range whole {
		want = append(want, outcome.WrittenDim(x))
	}
	l := whole[:3]
	results := func() [][]api.Power {
		var all [][]api.Power
		for _, f := range []func() ([]api.Power, api.Errno){
			func() ([]api.Power, api.Errno) { return dim.Mul(a, nil) },
			func() ([]api.Power, api.Errno) { return dim.Div(a, b) },
			func() ([]api.Power, api.Errno) { return dim.Pow(a, q("1")) },
			func() ([]api.Power, api.Errno) { return dim.Product(l, exps[:3]) },
			func() ([]api.Power, api.Errno) { return dim.Rebase(d("m"), bases) },
			func() ([]api.Power, api.Errno) { return dim.Rebase(a, nil) },
			func() ([]api.Power, api.Errno) { return dim.Parse("kg*m^2") },
		} {
			all = append(all, must[[]api.Power](t)(f()))
		}
		return all
	}
	first := results()
	second := results()
	for _, x := range first {
		for i := range x {
			x[i] = api.Power{Base: "changed"}
		}
		_ = append(x[:1], api.Power{Base: "changed"})
	}
	for i, x := range results() {
		if !slices.Equal(x, second[i]) {
			t.Error(i, x, second[i])
		}
	}
	groups := must[[][]api.Rat](t)(dim.Groups(whole))
	for i, g := range groups {
		_ = append(g, q("changed"))
		for j := range g {
			g[j] = q("changed")
		}
		for _, other := range groups[i+1:] {
			if slices.Contains(other, q("changed")) {
				t.Error(i, other)
			}
		}
	}
	if x := must[[]api.Rat](t)(dim.Express(l, b)); len(x) == 3 {
		x[0] = q("changed")
	}
	got := []string{outcome.WrittenDim(a), outcome.WrittenDim(b)}
	for _, x := range whole {
		got = append(got, outcome.WrittenDim(x))
	}
	row(t, append(got, list(exps, api.OK), outcome.WrittenDim(bases[0].Dim)), append(want, "1 -2 3 1/2 7", "a b")...)
}

// TestLong: long lists, and dimensions of many bases.
func TestLong(t *testing.T) {
	base := func(n int) string {
		return string([]byte{byte('a' + n/676), byte('a' + n/26%26), byte('a' + n%26)})
	}
	var wide []api.Power
	var l [][]api.Power
	for n := range 600 {
		p := api.Power{Base: base(n), Exp: q("-2")}
		wide, l = append(wide, p), append(l, []api.Power{p})
	}
	exps := slices.Repeat(rats("1"), len(l))
	if got, e := dim.Product(l, exps); e != api.OK || !slices.Equal(got, wide) {
		t.Error(len(got), e)
	}
	if got, e := dim.Express(l, wide); e != api.OK || !slices.Equal(got, exps) {
		t.Error(len(got), e)
	}
	groups, e := dim.Groups(append(l, wide))
	if e != api.OK || len(groups) != 1 || !slices.Equal(groups[0], append(slices.Repeat(rats("-1"), 600), q("1"))) {
		t.Error(len(groups), e)
	}
	// Steps of which each depends on the one before: the numbers on the way grow.
	l = nil
	for n := range 60 {
		l = append(l, []api.Power{{Base: base(n), Exp: q("3/2")}, {Base: base(n + 1), Exp: q("-7/" + byhand.Add("4", tens[:120]))}})
	}
	if n, e := dim.Rank(append(l, wide[:61])); n != 61 || e != api.OK {
		t.Error(n, e)
	}
}
