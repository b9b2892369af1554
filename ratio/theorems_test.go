package ratio_test

import (
	"slices"
	"strconv"
	"strings"
	"testing"

	"metewand/api"
	"metewand/internal/byhand"
	"metewand/ratio"
)

// P2.9

func TestP2_09Field(t *testing.T) {
	zero, one := q("0"), q("1")
	triples(21, 60, func(a, b, c api.Rat) {
		must := get(t)
		add := func(x, y api.Rat) api.Rat { return must(ratio.Add(x, y)) }
		mul := func(x, y api.Rat) api.Rat { return must(ratio.Mul(x, y)) }
		for _, pair := range [][2]api.Rat{
			{add(a, b), add(b, a)}, {add(add(a, b), c), add(a, add(b, c))}, {mul(a, b), mul(b, a)}, {mul(mul(a, b), c), mul(a, mul(b, c))}, {mul(a, add(b, c)), add(mul(a, b), mul(a, c))},
			{add(a, zero), a}, {mul(a, one), a}, {mul(a, zero), zero}, {add(a, negated(a)), zero}, {must(ratio.Sub(add(a, b), b)), a}, {add(must(ratio.Sub(a, b)), b), a}, {must(ratio.Sub(a, a)), zero},
		} {
			if pair[0] != pair[1] {
				t.Errorf("%s, %s, %s: %s is not %s", preview(a), preview(b), preview(c), preview(pair[0]), preview(pair[1]))
			}
		}
		if b != zero && (mul(must(ratio.Div(a, b)), b) != a || must(ratio.Div(mul(a, b), b)) != a || mul(b, must(ratio.Pow(b, -1))) != one) {
			t.Errorf("%s by %s", preview(a), preview(b))
		}
	})
}

// TestP2_09Long adds numbers of up to 400 digits, and takes the sum apart where there is one.
func TestP2_09Long(t *testing.T) {
	pairs(22, 400, func(a, b api.Rat) {
		sum, e := ratio.Add(a, b)
		other, f := ratio.Add(b, a)
		if sum != other || e != f {
			t.Errorf("%s, %s: the order matters", preview(a), preview(b))
		}
		if e == api.OK && (get(t)(ratio.Sub(sum, b)) != a || get(t)(ratio.Sub(sum, a)) != b) {
			t.Errorf("%s, %s: the sum is %s", preview(a), preview(b), preview(sum))
		}
		product, e := ratio.Mul(a, b)
		if e == api.OK && b.Num != "0" && get(t)(ratio.Div(product, b)) != a {
			t.Errorf("%s, %s: the product is %s", preview(a), preview(b), preview(product))
		}
	})
}

// P2.10

func TestP2_10Order(t *testing.T) {
	triples(23, 90, func(a, b, c api.Rat) {
		ab := compare(t, a, b)
		if compare(t, b, a) != -ab || (ab == 0) != (a == b) || compare(t, a, a) != 0 {
			t.Errorf("Compare(%s, %s) = %d", preview(a), preview(b), ab)
		}
		if bc := compare(t, b, c); ab <= 0 && bc <= 0 && compare(t, a, c) > min(0, max(ab, bc)) {
			t.Errorf("%s, %s and %s are not in order", preview(a), preview(b), preview(c))
		}
		must := get(t)
		if compare(t, must(ratio.Add(a, c)), must(ratio.Add(b, c))) != ab {
			t.Errorf("%s and %s: the order changes with %s added", preview(a), preview(b), preview(c))
		}
		if p := (api.Rat{Num: byhand.Amount(c.Num), Den: c.Den}); p.Num != "0" && compare(t, must(ratio.Mul(a, p)), must(ratio.Mul(b, p))) != ab {
			t.Errorf("%s and %s: the order changes with %s multiplied", preview(a), preview(b), preview(p))
		}
	})
}

// P2.11

func TestP2_11Lowest(t *testing.T) {
	lowest := func(a api.Rat, e api.Errno) {
		t.Helper()
		if f := ratio.Check(a); e == api.OK && f != api.OK || e != api.OK && a != (api.Rat{}) {
			t.Errorf("%s, %d: Check returns %d", preview(a), e, f)
		}
	}
	pairs(24, 400, func(a, b api.Rat) {
		lowest(ratio.Make(a.Num, byhand.Amount(b.Den)))
		lowest(ratio.Make(a.Num, b.Num))
		lowest(ratio.Add(a, b))
		lowest(ratio.Sub(a, b))
		lowest(ratio.Mul(a, b))
		lowest(ratio.Div(a, b))
		lowest(ratio.Pow(a, -2))
		lowest(ratio.Between(a, b))
		lowest(ratio.Near(a, 1000))
	})
	// Equal numbers that are found in different ways.
	must := get(t)
	for _, a := range samples(25, 60) {
		same := []api.Rat{must(ratio.Make(byhand.Mul(a.Num, "-30"), byhand.Mul(a.Den, "-30"))), must(ratio.Div(must(ratio.Mul(a, q("7/9"))), q("7/9"))), must(ratio.Sub(must(ratio.Add(a, q("-5/6"))), q("-5/6"))), must(ratio.Pow(must(ratio.Pow(must(ratio.Add(a, q("0"))), 1)), 1)), must(ratio.Parse(written(a)))}
		for _, b := range same {
			if a != b {
				t.Errorf("%s and %s", preview(a), preview(b))
			}
		}
	}
}

// P2.12

func TestP2_12Rounding(t *testing.T) {
	must := get(t)
	seed := byhand.Chance(26)
	for _, a := range append(samples(27, 120), small(2, 12)...) {
		below, e := ratio.Floor(a)
		rest := must(ratio.Sub(a, q(below)))
		if e != api.OK || rest.Num[0] == '-' || compare(t, rest, q("1")) >= 0 {
			t.Errorf("Floor(%s) = %s, %d", preview(a), below, e)
		}
		half := func(b api.Rat, unit string) {
			t.Helper()
			if distance := must(ratio.Sub(a, b)); compare(t, api.Rat{Num: byhand.Amount(distance.Num), Den: distance.Den}, must(ratio.Make(unit, "2"))) > 0 {
				t.Errorf("%s is too far from %s", preview(b), preview(a))
			}
		}
		near, _ := ratio.Nearest(a)
		half(q(near), "1")
		for _, places := range []int{1, 2, seed.Below(100), 100} {
			s, e := ratio.Decimal(a, places)
			unit := must(ratio.Pow(q("10"), places%20))
			for range places / 20 {
				unit = must(ratio.Mul(unit, must(ratio.Pow(q("10"), 20))))
			}
			shift := must(ratio.Mul(must(ratio.Sub(a, must(ratio.Parse(s)))), unit))
			if e != api.OK || compare(t, api.Rat{Num: byhand.Amount(shift.Num), Den: shift.Den}, q("1/2")) > 0 {
				t.Errorf("Decimal(%s, %d) = %s, %d", preview(a), places, s, e)
			}
		}
	}
}

// P2.13

// TestP2_13Expansion adds up the series: the digits of the period, divided by as many nines, behind the front.
func TestP2_13Expansion(t *testing.T) {
	must := get(t)
	for _, a := range append(samples(28, 20), small(1, 97)...) {
		front, period, e := ratio.Expand(a)
		if e == api.ErrLarge {
			continue
		}
		_, behind, point := strings.Cut(front, ".")
		scale := "1" + strings.Repeat("0", len(behind))
		num := strings.TrimLeft(strings.ReplaceAll(byhand.Amount(front), ".", ""), "0")
		sum := must(ratio.Make("0"[:max(0, 1-len(num))]+num, scale))
		if period != "" {
			repeated := strings.TrimLeft(period, "0")
			sum = must(ratio.Add(sum, must(ratio.Make(repeated, strings.Repeat("9", len(period))+scale[1:]))))
		}
		if byhand.Negative(front) {
			sum = negated(sum)
		}
		if e != api.OK || sum != a || point != (behind+period != "") {
			t.Errorf("Expand(%s) = %s, %s, %d", preview(a), front, period, e)
		}
		// A shorter period would be a part of this one, repeated; a shorter front would end as the period does.
		for size := 1; size < len(period); size++ {
			if len(period)%size == 0 && strings.Repeat(period[:size], len(period)/size) == period {
				t.Errorf("Expand(%s): the period %s has a period", preview(a), period)
			}
		}
		if behind != "" && (period != "" && behind[len(behind)-1] == period[len(period)-1] || period == "" && behind[len(behind)-1] == '0') {
			t.Errorf("Expand(%s): the front %s is too long", preview(a), front)
		}
	}
}

// P2.14

func TestP2_14Print(t *testing.T) {
	for _, a := range append(samples(29, 400), small(3, 9)...) {
		s, e := ratio.Print(a)
		if b := get(t)(ratio.Parse(s)); e != api.OK || b != a {
			t.Errorf("Print(%s) = %s, %d", preview(a), byhand.Preview(s), e)
		}
	}
	for n := -12; n <= 12; n++ {
		for d := -1; d <= 12; d++ {
			s := strconv.Itoa(n) + "/" + strconv.Itoa(d)
			a, e := ratio.Parse(s)
			if d > 1 && divisor(n, d) == 1 {
				row(t, []string{rat(a, e), one(ratio.Print(a))}, s, s)
			} else {
				row(t, []string{rat(a, e)}, "ErrForm")
			}
		}
	}
}

// P2.15

func TestP2_15Terms(t *testing.T) {
	for _, a := range append(samples(30, 99), small(2, 30)...) {
		terms, e := ratio.Fraction(a)
		if b := get(t)(ratio.OfFraction(terms)); e != api.OK || b != a {
			t.Errorf("Fraction(%s) = %v, %d", preview(a), terms, e)
		}
		last := get(t)(ratio.OfFraction(terms[:1]))
		for i := 2; i <= len(terms); i++ {
			next := get(t)(ratio.OfFraction(terms[:i]))
			cross := byhand.Add(byhand.Mul(next.Num, last.Den), byhand.Minus(byhand.Mul(last.Num, next.Den)))
			if want := []string{"1", "-1"}[i%2]; cross != want {
				t.Errorf("%s: convergents %s and %s, %s", preview(a), preview(last), preview(next), cross)
			}
			last = next
		}
	}
}

// P2.16

// TestP2_16Between: a number that is not whole is the simplest one between two others if it is between them, and the two numbers next to it that are simpler are not. Those are its continued fraction without the last term, and with the last term less 1.
func TestP2_16Between(t *testing.T) {
	pairs(31, 400, func(a, b api.Rat) {
		if byhand.Order(a, b) > 0 {
			a, b = b, a
		}
		between, e := ratio.Between(a, b)
		if a == b || e == api.ErrLarge {
			return
		}
		if e != api.OK || byhand.Order(a, between) >= 0 || byhand.Order(between, b) >= 0 {
			t.Fatalf("Between(%s, %s) = %s, %d", preview(a), preview(b), preview(between), e)
		}
		if between.Den == "1" {
			nearer := api.Rat{Num: byhand.Add(byhand.Amount(between.Num), "-1"), Den: "1"}
			if byhand.Negative(between.Num) {
				nearer = negated(nearer)
			}
			if between.Num != "0" && byhand.Order(a, nearer) < 0 && byhand.Order(nearer, b) < 0 {
				t.Errorf("Between(%s, %s) = %s", preview(a), preview(b), preview(between))
			}
			return
		}
		terms, _ := ratio.Fraction(between)
		last := len(terms) - 1
		parents := [][]string{terms[:last], slices.Concat(terms[:last], []string{byhand.Add(terms[last], "-1")})}
		for _, parent := range parents {
			num, den := ofTermsByHand(parent)
			if p := (api.Rat{Num: num, Den: den}); byhand.Order(a, p) < 0 && byhand.Order(p, b) < 0 {
				t.Errorf("Between(%s, %s) = %s, but %s is simpler", preview(a), preview(b), preview(between), preview(p))
			}
		}
	})
}

// P2.17

func TestP2_17Near(t *testing.T) {
	must := get(t)
	for _, a := range append(samples(32, 130), small(1, 40)...) {
		for _, most := range []int{1, 7, 60} {
			got := must(ratio.Near(a, most))
			distance := func(b api.Rat) api.Rat {
				d := must(ratio.Sub(a, b))
				return api.Rat{Num: byhand.Amount(d.Num), Den: d.Den}
			}
			for den := 1; den <= most; den++ {
				// The nearest number with this denominator.
				near, _ := ratio.Nearest(must(ratio.Mul(a, q(strconv.Itoa(den)))))
				if compare(t, distance(got), distance(must(ratio.Make(near, strconv.Itoa(den))))) > 0 {
					t.Errorf("Near(%s, %d) = %s, but %s/%d is nearer", preview(a), most, preview(got), near, den)
				}
			}
		}
	}
}
