package dim_test

import (
	"maps"
	"slices"
	"strings"
	"testing"

	"metewand/api"
	"metewand/dim"
	"metewand/internal/byhand"
	"metewand/internal/outcome"
)

var (
	nines = strings.Repeat("9", 400)       // the greatest whole number
	tens  = "1" + strings.Repeat("0", 399) // the least one of 400 digits
	over  = "1" + strings.Repeat("0", 400) // of 401 digits
)

// must ends the test if there is an error.
func must[T any](t *testing.T) func(x T, e api.Errno) T {
	return func(x T, e api.Errno) T {
		t.Helper()
		if e != api.OK {
			t.Fatal(outcome.Name(e))
		}
		return x
	}
}

// sample is how random dimensions look.
type sample struct {
	byhand.Chance
	digits int // of exponents, at most
	bases  int // that there are, at most 8
}

func (s *sample) exponent() api.Rat {
	if s.Below(3) > 0 {
		return q(strings.Fields("1 -1 2 -2 3 1/2 -1/2 1/3 -3/2 4")[s.Below(10)])
	}
	den := byhand.Add(byhand.Amount(s.Number(1+s.Below(s.digits))), "1")
	x := byhand.Reduced(s.Number(1+s.Below(s.digits)), den)
	if !byhand.Fits(x) || x.Num == "0" {
		return q("1")
	}
	return x
}

func (s *sample) dimension() []api.Power {
	var out []api.Power
	for _, base := range strings.Fields("a abcdefgh cd kg m mol s z")[:s.bases] {
		if s.Below(2) == 0 {
			out = append(out, api.Power{Base: base, Exp: s.exponent()})
		}
	}
	return out
}

// list returns so many dimensions, of which some are products of powers of those before them.
func (s *sample) list(size int) [][]api.Power {
	var l [][]api.Power
	for range size {
		next := s.dimension()
		if len(l) > 0 && s.Below(3) == 0 {
			next = productByHand(l, s.exponents(len(l)))
		}
		if s.Below(12) == 0 {
			next = nil
		}
		l = append(l, next)
	}
	return l
}

// exponents returns so many numbers, some of which are 0.
func (s *sample) exponents(size int) []api.Rat {
	var exps []api.Rat
	for range size {
		x := q("0")
		if s.Below(3) > 0 {
			x = s.exponent()
		}
		exps = append(exps, x)
	}
	return exps
}

// productByHand may have exponents of any size.
func productByHand(l [][]api.Power, exps []api.Rat) []api.Power {
	sums := map[string]api.Rat{}
	for i, d := range l {
		for _, p := range d {
			before, is := sums[p.Base]
			if !is {
				before = q("0")
			}
			sums[p.Base] = byhand.Reduced(byhand.Plus(before, byhand.Reduced(byhand.Times(p.Exp, exps[i]))))
		}
	}
	var out []api.Power
	for _, base := range slices.Sorted(maps.Keys(sums)) {
		if sums[base].Num != "0" {
			out = append(out, api.Power{Base: base, Exp: sums[base]})
		}
	}
	return out
}

func fits(d []api.Power) bool {
	return !slices.ContainsFunc(d, func(p api.Power) bool { return !byhand.Fits(p.Exp) })
}

// due reports a result that is not a dimension, or not ErrLarge where it has an exponent that is too large.
func due(t *testing.T, want, got []api.Power, e api.Errno) {
	t.Helper()
	if fits(want) && (e != api.OK || !slices.Equal(got, want)) || !fits(want) && (e != api.ErrLarge || len(got) > 0) {
		t.Errorf("%s, not %s", preview(one(got, e)), preview(outcome.WrittenDim(want)))
	}
}

func preview(s string) string {
	if len(s) > 300 {
		return s[:300] + ".."
	}
	return s
}

// prime is greater than all minors of the small exponents of the tests.
const prime = 1_000_000_007

func inverse(n int) int {
	result := 1
	for e := prime - 2; e > 0; e /= 2 {
		if e%2 == 1 {
			result = result * n % prime
		}
		n = n * n % prime
	}
	return result
}

func residue(digits string) int {
	n := 0
	for _, r := range byhand.Amount(digits) {
		n = (n*10 + int(r-'0')) % prime
	}
	if byhand.Negative(digits) {
		return (prime - n) % prime
	}
	return n
}

// rankByHand finds by the remainders of exponents how many dimensions depend on no others before them.
func rankByHand(l [][]api.Power) int {
	leads := []string(nil)
	rows := []map[string]int(nil)
	for _, d := range l {
		rest := map[string]int{}
		for _, p := range d {
			rest[p.Base] = residue(p.Exp.Num) * inverse(residue(p.Exp.Den)) % prime
		}
		for i, r := range rows {
			times := rest[leads[i]] * inverse(r[leads[i]]) % prime
			for base, n := range r {
				rest[base] = ((rest[base]-n*times)%prime + prime) % prime
			}
		}
		for _, base := range slices.Sorted(maps.Keys(rest)) {
			if rest[base] != 0 {
				leads, rows = append(leads, base), append(rows, rest)
				break
			}
		}
	}
	return len(rows)
}

// isNone tells whether a product has no dimension.
func isNone(l [][]api.Power, exps []api.Rat) bool { return len(productByHand(l, exps)) == 0 }

// dependent tells which dimensions of a list are products of powers of those before them.
func dependent(l [][]api.Power) []bool {
	out := make([]bool, len(l))
	for i := range l {
		out[i] = rankByHand(l[:i+1]) == rankByHand(l[:i])
	}
	return out
}

// outcomes calls all functions with some arguments, and returns what they return.
func outcomes(a, b []api.Power, l [][]api.Power, exps []api.Rat, s string) []string {
	n := q("2")
	if len(exps) > 0 {
		n = exps[0]
	}
	bases := []api.DimBase{{Base: "m", Dim: b}, {Base: s, Dim: a}}
	return []string{
		outcome.Name(dim.Check(a)), same(dim.Same(a, b)), one(dim.Mul(a, b)), one(dim.Div(a, b)), one(dim.Pow(a, n)), exponent(dim.Exp(a, s)),
		one(dim.Product(l, exps)), one(dim.Rebase(a, bases)), text(dim.Print(a)), one(dim.Parse(s)),
		rank(dim.Rank(l)), list(dim.Express(l, a)), lists(dim.Groups(l)),
	}
}
