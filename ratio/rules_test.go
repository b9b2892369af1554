package ratio_test

import (
	"math"
	"slices"
	"strings"
	"sync"
	"testing"

	"metewand/api"
	"metewand/internal/byhand"
	"metewand/ratio"
)

// odd returns numbers of all kinds, valid ones and others.
func odd() []api.Rat {
	strange := []string{"", "-", "0", "-0", "1", "-1", "2", "00", "x", "\xff", "9223372036854775808", nines, "-" + nines, over, strings.Repeat("z", 3000)}
	var all []api.Rat
	for _, num := range strange {
		for _, den := range strange {
			all = append(all, api.Rat{Num: num, Den: den})
		}
	}
	return append(all, q("2/3"), q("-2/3"), q("-"+nines+"/"+tens), q(tens+"/"+nines))
}

// outcomes calls all functions with some arguments, and returns what they return.
func outcomes(a, b api.Rat, s string, n int) []string {
	return []string{
		written(a), check(written(a)), rat(ratio.Make(a.Num, b.Den)), order(ratio.Compare(a, b)), rat(ratio.Add(a, b)), rat(ratio.Sub(a, b)), rat(ratio.Mul(a, b)), rat(ratio.Div(a, b)), rat(ratio.Pow(a, n)),
		one(ratio.Floor(a)), one(ratio.Nearest(a)), one(ratio.Decimal(a, n)), two(ratio.Expand(a)), one(ratio.Print(a)), rat(ratio.Parse(s)),
		list(ratio.Fraction(a)), rat(ratio.OfFraction([]string{a.Num, b.Num, s})), rat(ratio.Between(a, b)), rat(ratio.Near(a, n)),
	}
}

// TestP1NoPanic: each function returns, whatever its arguments are.
func TestP1NoPanic(t *testing.T) {
	seed := byhand.Chance(41)
	all := odd()
	for _, a := range all {
		for _, n := range []int{math.MinInt, -21, -1, 0, 1, 20, 200, 201, 1000001, math.MaxInt} {
			b := all[seed.Below(len(all))]
			outcomes(a, b, b.Num+"/"+a.Den, n)
			outcomes(b, a, b.Num+"."+a.Den, n)
		}
	}
}

// TestR1 is the order of errors: of the first number, of the second one, those that the promises name.
func TestR1(t *testing.T) {
	seed := byhand.Chance(42)
	all := odd()
	for _, a := range all {
		first := ratio.Check(a)
		for range 30 {
			b := all[seed.Below(len(all))]
			want := first
			if want == api.OK {
				want = ratio.Check(b)
			}
			if want != api.OK {
				row(t, []string{order(ratio.Compare(a, b)), rat(ratio.Add(a, b)), rat(ratio.Sub(a, b)), rat(ratio.Mul(a, b)), rat(ratio.Div(a, b)), rat(ratio.Between(a, b))}, slices.Repeat([]string{rat(api.Rat{}, want)}, 6)...)
			}
		}
		if first != api.OK {
			row(t, []string{rat(ratio.Pow(a, 21)), one(ratio.Floor(a)), one(ratio.Nearest(a)), one(ratio.Decimal(a, -1)), two(ratio.Expand(a)), one(ratio.Print(a)), list(ratio.Fraction(a)), rat(ratio.Near(a, 0)), rat(ratio.Div(a, q("0"))), rat(ratio.Between(a, a))}, slices.Repeat([]string{rat(api.Rat{}, first)}, 10)...)
		}
	}
	// An error that a promise names comes before a result that is too large.
	row(t, []string{rat(ratio.Pow(q(nines), 21)), rat(ratio.Pow(q(nines), 20)), rat(ratio.Pow(q("0"), -1)), rat(ratio.Between(q(nines), q(nines)))}, "ErrValue", "ErrLarge", "ErrZero", "ErrOrder")
}

// TestR3 is that results are zero values if there is an error.
func TestR3(t *testing.T) {
	empty := func(e api.Errno, results ...string) {
		t.Helper()
		if e == api.OK || slices.ContainsFunc(results, func(s string) bool { return s != "" }) {
			t.Errorf("error %d with %q", e, results)
		}
	}
	number := func(a api.Rat, e api.Errno) { t.Helper(); empty(e, a.Num, a.Den) }
	text := func(s string, e api.Errno) { t.Helper(); empty(e, s) }
	bad := q("2/2")
	if n, e := ratio.Compare(q("1"), bad); n != 0 || e != api.ErrForm {
		t.Error(n, e)
	}
	number(ratio.Make("1", "0"))
	number(ratio.Add(q(nines), q(nines)))
	number(ratio.Sub(q("1/"+nines), q("1/7")))
	number(ratio.Mul(q(nines+"/7"), q(tens)))
	number(ratio.Mul(q("7/"+nines), q("1/"+tens)))
	number(ratio.Div(q("1"), q("0")))
	number(ratio.Pow(q("10"), 21))
	number(ratio.Pow(q("1/"+tens), 2))
	text(ratio.Floor(bad))
	text(ratio.Nearest(bad))
	text(ratio.Decimal(q("1"), 201))
	front, period, e := ratio.Expand(q("1/223"))
	empty(e, front, period)
	text(ratio.Print(bad))
	number(ratio.Parse("1.x"))
	number(ratio.OfFraction([]string{"1", "0"}))
	number(ratio.Between(q("1"), q("1")))
	number(ratio.Near(q("1"), 0))
	if l, e := ratio.Fraction(bad); len(l) != 0 || e != api.ErrForm {
		t.Error(l, e)
	}
}

// TestR2 is that nothing is remembered between calls, and that calls at the same time do not disturb each other.
func TestR2(t *testing.T) {
	seed := byhand.Chance(43)
	a, b := reduced(seed.Number(399), byhand.Amount(seed.Number(390))), reduced(seed.Number(380), byhand.Amount(seed.Number(400)))
	s := byhand.Amount(seed.Number(60))
	want := outcomes(a, b, s, 17)
	var all sync.WaitGroup
	for range 8 {
		all.Go(func() {
			for range 3 {
				if got := outcomes(a, b, s, 17); !slices.Equal(got, want) {
					t.Errorf("got %q, want %q", got, want)
				}
				outcomes(b, a, "-0.5", 3)
			}
		})
	}
	all.Wait()
}

// TestR4 is that no argument is changed, and that no result shares memory with an argument or another result.
func TestR4(t *testing.T) {
	first, _ := ratio.Fraction(q("649/200"))
	second, _ := ratio.Fraction(q("649/200"))
	want := []string{"3", "4", "12", "4"}
	for i := range first {
		first[i] = "changed"
	}
	_ = append(first[:1], "changed")
	if !slices.Equal(second, want) {
		t.Error(second)
	}
	terms := append(slices.Clone(want), "5", "6")
	row(t, []string{rat(ratio.OfFraction(terms[:4]))}, "649/200")
	if !slices.Equal(terms, append(want, "5", "6")) {
		t.Error(terms)
	}
}
