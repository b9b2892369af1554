package ratio_test

import (
	"strings"
	"testing"

	"metewand/api"
	"metewand/internal/byhand"
	"metewand/ratio"
)

var (
	nines = strings.Repeat("9", 400)       // the greatest whole number
	tens  = "1" + strings.Repeat("0", 399) // the least one of 400 digits
	over  = "1" + strings.Repeat("0", 400) // of 401 digits
	// fives and 1/2 are half of nines.
	fives = "4" + strings.Repeat("9", 399)
)

var (
	reduced    = byhand.Reduced
	negated    = byhand.Negated
	plusByHand = byhand.Plus
	fits       = byhand.Fits
)

// get returns a function that returns a result, or ends the test if there is an error.
func get(t *testing.T) func(a api.Rat, e api.Errno) api.Rat {
	return func(a api.Rat, e api.Errno) api.Rat {
		t.Helper()
		if e != api.OK {
			t.Fatalf("unexpected error %d", e)
		}
		return a
	}
}

func compare(t *testing.T, a, b api.Rat) int {
	t.Helper()
	order, e := ratio.Compare(a, b)
	if e != api.OK {
		t.Fatalf("Compare(%s, %s): error %d", preview(a), preview(b), e)
	}
	return order
}

func preview(a api.Rat) string { return byhand.PreviewRat(a) }

// due reports a result that is not num/den in lowest terms, or an error where there is a result. (Den may be less than 0.)
func due(t *testing.T, num, den string, got api.Rat, e api.Errno) {
	t.Helper()
	if byhand.Negative(den) {
		num, den = byhand.Minus(num), byhand.Minus(den)
	}
	if e == api.OK && ratio.Check(got) == api.OK && byhand.Mul(got.Num, den) == byhand.Mul(num, got.Den) {
		return
	}
	if want := reduced(num, den); e != api.ErrLarge || fits(want) || got != (api.Rat{}) {
		t.Errorf("got %s, %d, want %s", preview(got), e, preview(want))
	}
}

// samples returns numbers whose numerators and denominators have up to so many digits.
func samples(seed byhand.Chance, most int) []api.Rat {
	all := []api.Rat{q("0"), q("1"), q("-1"), q("1/2"), q("-1/2"), q("2/3"), q("-7/3"), q("22/7"), q("10"), q("-9/10")}
	sizes := []int{1, 3, 9, 18, 20, 60, 99, 130, 198, 199, 200, 201, 300, 399, 400}
	for _, digits := range sizes {
		if digits > most {
			break
		}
		others := sizes[:1+seed.Below(len(sizes))]
		other := min(others[len(others)-1], most)
		for _, x := range [][2]int{{digits, digits}, {digits, other}, {other, digits}} {
			if den := byhand.Amount(seed.Number(x[1])); den != "0" {
				all = append(all, reduced(seed.Number(x[0]), den))
			}
		}
	}
	return all
}

// pairs calls check with pairs of samples of up to so many digits, and with pairs whose sums have fewer digits than their denominators let expect.
func pairs(seed byhand.Chance, most int, check func(a, b api.Rat)) {
	all := samples(seed, most)
	for _, a := range all {
		for range 4 {
			check(a, all[seed.Below(len(all))])
		}
		check(a, a)
		check(a, negated(a))
		if b := reduced(plusByHand(q(seed.Number(1+seed.Below(20))+"/7"), negated(a))); fits(b) {
			check(a, b)
			check(b, negated(a))
		}
	}
	for range 20 {
		part := func() string { return byhand.Add(byhand.Amount(seed.Number(1+seed.Below(most/2))), "1") }
		common := part()
		a, b := reduced(seed.Number(most), byhand.Mul(common, part())), reduced(seed.Number(most), byhand.Mul(common, part()))
		if fits(a) && fits(b) {
			check(a, b)
			check(a, negated(b))
		}
		a, b = reduced(part(), common), reduced(byhand.Minus(part()), common)
		check(a, b)
	}
}

// triples calls check with triples of samples of up to so many digits.
func triples(seed byhand.Chance, most int, check func(a, b, c api.Rat)) {
	all := samples(seed, most)
	for _, a := range all {
		for range 6 {
			check(a, all[seed.Below(len(all))], all[seed.Below(len(all))])
		}
	}
}

// small returns all numbers in lowest terms from -most to most, ascending by denominators up to den, then by numerators.
func small(most, den int) []api.Rat {
	var all []api.Rat
	for d := 1; d <= den; d++ {
		for n := -most * d; n <= most*d; n++ {
			if divisor(n, d) == 1 {
				all = append(all, machine(n, d))
			}
		}
	}
	return all
}
