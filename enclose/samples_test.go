package enclose_test

import (
	"math"
	"slices"
	"strconv"
	"strings"
	"testing"

	"metewand/api"
	"metewand/enclose"
	"metewand/internal/byhand"
	"metewand/internal/outcome"
)

var nines, tens, over = byhand.Limits()

var (
	compare = byhand.Order
	plus    = byhand.Sum
	minus   = byhand.Difference
	times   = byhand.Product
	divided = byhand.Quotient
)

// around returns the narrowest enclosure of some numbers of any size.
func around(l ...api.Rat) api.Enclosure {
	return api.Enclosure{Lo: slices.MinFunc(l, compare), Hi: slices.MaxFunc(l, compare)}
}

// each returns what an operation makes of each end of a with each one of b.
func each(operation func(x, y api.Rat) api.Rat, a, b api.Enclosure) []api.Rat {
	return []api.Rat{operation(a.Lo, b.Lo), operation(a.Lo, b.Hi), operation(a.Hi, b.Lo), operation(a.Hi, b.Hi)}
}

func has(a api.Enclosure, x api.Rat) bool { return compare(a.Lo, x) <= 0 && compare(x, a.Hi) <= 0 }

// within tells whether b has all of a.
func within(a, b api.Enclosure) bool { return has(b, a.Lo) && has(b, a.Hi) }

// common tells whether a and b have a number in common.
func common(a, b api.Enclosure) bool { return compare(a.Lo, b.Hi) <= 0 && compare(b.Lo, a.Hi) <= 0 }

// due reports a result that is not the one that was found by hand, or an error unless this has too many digits.
func due(t *testing.T, want, got api.Enclosure, e api.Errno) {
	t.Helper()
	switch {
	case !byhand.Fits(want.Lo) || !byhand.Fits(want.Hi):
		if e != api.ErrLarge || got != (api.Enclosure{}) {
			t.Fatal("too large:", preview(want), preview(got), e)
		}
	case e != api.OK || got != want:
		t.Fatal(preview(got), outcome.Name(e), "want", preview(want))
	}
}

func preview(a api.Enclosure) string {
	return byhand.PreviewRat(a.Lo) + ".." + byhand.PreviewRat(a.Hi)
}

// get returns a function that returns a result, or ends the test if there is an error.
func get(t *testing.T) func(a api.Enclosure, e api.Errno) api.Enclosure {
	return outcome.Must[api.Enclosure](t)
}

// sample is how random enclosures look.
type sample struct {
	byhand.Chance
	digits int // of some numbers, at most; 0: all are small
}

// kinds are the samples that the tests try.
func kinds(seed byhand.Chance) []*sample {
	return []*sample{{seed, 0}, {seed + 1, 0}, {seed + 2, 30}, {seed + 3, 240}}
}

func (s *sample) rat() api.Rat { return s.Rat(s.digits) }

func (s *sample) in() api.Enclosure {
	x := s.rat()
	if s.Below(6) == 0 {
		return around(x)
	}
	return around(x, s.rat())
}

// inside returns a number of a.
func (s *sample) inside(a api.Enclosure) api.Rat {
	part := byhand.Reduced(strconv.Itoa(s.Below(8)), "7")
	return plus(a.Lo, times(part, minus(a.Hi, a.Lo)))
}

// narrower returns an enclosure all of whose numbers a has.
func (s *sample) narrower(a api.Enclosure) api.Enclosure {
	return around(s.inside(a), s.inside(a))
}

// between returns a number from one to another, of some denominator, or an end.
func (s *sample) between(lo, hi api.Rat) api.Rat {
	den := 1 + s.Below(1+s.Below(1000000))
	return plus(lo, times(byhand.Reduced(strconv.Itoa(s.Below(den+1)), strconv.Itoa(den)), minus(hi, lo)))
}

// domain returns an enclosure whose ends are from one number to another.
func (s *sample) domain(lo, hi string) api.Enclosure {
	x := s.between(q(lo), q(hi))
	if s.Below(6) == 0 {
		return around(x)
	}
	return around(x, s.between(q(lo), q(hi)))
}

// decimal returns n decimals of some places.
func decimal(n string, places int) api.Rat {
	return byhand.Reduced(n, "1"+strings.Repeat("0", places))
}

// floor returns the greatest whole number that is not greater than a.
func floor(a api.Rat) string {
	quotient, rest := byhand.Divide(byhand.Amount(a.Num), a.Den)
	if !byhand.Negative(a.Num) {
		return quotient
	}
	if rest != "0" {
		quotient = byhand.Add(quotient, "1")
	}
	return byhand.Minus(quotient)
}

// outward returns the outward span of two numbers.
func outward(lo, hi api.Rat, places int) api.Enclosure {
	scale := q("1" + strings.Repeat("0", places))
	return api.Enclosure{Lo: decimal(floor(times(lo, scale)), places), Hi: byhand.Negated(decimal(floor(times(byhand.Negated(hi), scale)), places))}
}

// neighbours returns two numbers of 400 digits, one on each side of a number that is not rational, and nearer to it than 10^-795. It is given by 820 decimals. They are convergents of its continued fraction.
func neighbours(whole, decimals string) (below, above api.Rat) {
	n, rest := byhand.Add(whole+decimals, "0"), "1"+strings.Repeat("0", len(decimals))
	last, next := api.Rat{Num: "0", Den: "1"}, api.Rat{Num: "1", Den: "0"}
	for side := 0; ; side++ {
		term, remains := byhand.Divide(n, rest)
		n, rest = rest, remains
		last, next = next, api.Rat{Num: byhand.Add(last.Num, byhand.Mul(term, next.Num)), Den: byhand.Add(last.Den, byhand.Mul(term, next.Den))}
		if !byhand.Fits(next) {
			return below, above
		}
		if side%2 == 0 {
			below = next
		} else {
			above = next
		}
	}
}

// images are the functions with places, and where they are there.
type images struct {
	of     func(a api.Enclosure, places int) (api.Enclosure, api.Errno)
	real   func(x float64) float64
	lo, hi string
}

func allImages() map[string]images {
	return map[string]images{
		"round": {enclose.Round, func(x float64) float64 { return x }, "-9", "9"},
		"root":  {enclose.Root, math.Sqrt, "0", "1000"},
		"exp":   {enclose.Exp, math.Exp, "-4", "4"},
		"log":   {enclose.Log, math.Log, "1/100", "100"},
		"sin":   {enclose.Sin, math.Sin, "-4", "4"},
	}
}

// float returns about the number that a is.
func float(a api.Rat) float64 {
	num, _ := strconv.ParseFloat(a.Num, 64)
	den, _ := strconv.ParseFloat(a.Den, 64)
	return num / den
}
