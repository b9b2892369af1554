package ratio_test

import (
	"math"
	"slices"
	"strconv"
	"strings"
	"testing"

	"metewand/api"
	"metewand/internal/byhand"
	"metewand/internal/outcome"
	"metewand/ratio"
)

// P2.1

func TestP2_01Check(t *testing.T) {
	for s, want := range map[string]api.Errno{
		"0": api.OK, "1": api.OK, "-1": api.OK, "1/2": api.OK, "-7/3": api.OK, nines: api.OK, "-" + nines: api.OK, "1/" + nines: api.OK, "-" + nines + "/" + tens: api.OK, tens + "/" + nines: api.OK,
		"": api.ErrForm, "/": api.ErrForm, "1/": api.ErrForm, "/1": api.ErrForm, "x": api.ErrForm, "1/x": api.ErrForm, "-": api.ErrForm, "-0": api.ErrForm, "01": api.ErrForm, "1/02": api.ErrForm, "+1": api.ErrForm, "1/+2": api.ErrForm, " 1": api.ErrForm, "1/2 ": api.ErrForm, "1.5": api.ErrForm, "1/2/3": api.ErrForm, "\xff": api.ErrForm, "\u0663": api.ErrForm,
		"1/0": api.ErrForm, "0/0": api.ErrForm, "1/-1": api.ErrForm, "-1/-1": api.ErrForm, "1/-0": api.ErrForm, "0/2": api.ErrForm, "0/-1": api.ErrForm, "2/2": api.ErrForm, "-2/4": api.ErrForm, "15/6": api.ErrForm, nines + "/3": api.ErrForm, "3/" + nines: api.ErrForm, nines + "/" + nines: api.ErrForm,
		over: api.ErrLarge, "-" + over: api.ErrLarge, "1/" + over: api.ErrLarge, over + "/" + over: api.ErrLarge,
		// Too many digits come behind the form, and before the lowest terms.
		over + "/10": api.ErrLarge, "10/" + over: api.ErrLarge, "0/" + over: api.ErrLarge,
		over + "/0": api.ErrForm, over + "/-1": api.ErrForm, over + "/x": api.ErrForm, "x/" + over: api.ErrForm, "1/-" + over: api.ErrForm, "1/0" + over: api.ErrForm, over + "x/2": api.ErrForm,
	} {
		if got := ratio.Check(q(s)); got != want {
			t.Errorf("Check(%s) = %d, want %d", byhand.Preview(s), got, want)
		}
	}
	if e := ratio.Check(api.Rat{}); e != api.ErrForm {
		t.Error(e)
	}
}

func TestP2_01Make(t *testing.T) {
	seed := byhand.Chance(1)
	for range 60 {
		common := byhand.Amount(seed.Number(1 + seed.Below(190)))
		num, den := byhand.Mul(seed.Number(1+seed.Below(210)), common), byhand.Mul(seed.Number(1+seed.Below(210)), common)
		if den != "0" {
			got, e := ratio.Make(num, den)
			if e != api.OK {
				t.Errorf("Make(%s, %s): error %d", byhand.Preview(num), byhand.Preview(den), e)
			}
			due(t, num, den, got, e)
		}
	}
	row(t, []string{rat(ratio.Make("6", "4")), rat(ratio.Make("-6", "4")), rat(ratio.Make("6", "-4")), rat(ratio.Make("-6", "-4")), rat(ratio.Make("0", "-7")), rat(ratio.Make("7", "7")), rat(ratio.Make(nines, "-"+nines)), rat(ratio.Make("-"+nines, "-1")), rat(ratio.Make("1", "-"+nines))}, "3/2", "-3/2", "-3/2", "3/2", "0", "1", "-1", nines, "-1/"+nines)
	row(t, []string{rat(ratio.Make("0", "0")), rat(ratio.Make("x", "0")), rat(ratio.Make("1", "")), rat(ratio.Make("1", "-0")), rat(ratio.Make(over, "x")), rat(ratio.Make("x", over)), rat(ratio.Make("0", over)), rat(ratio.Make(over, "0")), rat(ratio.Make(over, over))}, "ErrZero", "ErrForm", "ErrForm", "ErrForm", "ErrLarge", "ErrForm", "ErrLarge", "ErrLarge", "ErrLarge")
}

func TestP2_01Compare(t *testing.T) {
	pairs(2, 400, func(a, b api.Rat) {
		if got, want := compare(t, a, b), byhand.Order(a, b); got != want {
			t.Errorf("Compare(%s, %s) = %d, want %d", preview(a), preview(b), got, want)
		}
	})
	all := small(2, 6)
	for _, a := range all {
		for _, b := range all {
			if got := compare(t, a, b); got != byhand.Order(a, b) {
				t.Errorf("Compare(%s, %s) = %d", written(a), written(b), got)
			}
		}
	}
}

// TestP2_01CompareNeighbours compares numbers of 400 digits that differ by the least that is possible, so that all terms of their continued fractions but the last ones are equal.
func TestP2_01CompareNeighbours(t *testing.T) {
	last, next := "1", "1"
	for len(byhand.Add(last, next)) <= 400 {
		last, next = next, byhand.Add(last, next)
	}
	less := byhand.Add(next, byhand.Minus(last))
	a, b := api.Rat{Num: next, Den: last}, api.Rat{Num: last, Den: less}
	want := byhand.Order(a, b)
	if compare(t, a, b) != want || compare(t, b, a) != -want || compare(t, negated(a), negated(b)) != -want || want == 0 {
		t.Error(want)
	}
	a, b = api.Rat{Num: nines[:399] + "8", Den: nines}, api.Rat{Num: nines[:399] + "7", Den: nines[:399] + "8"}
	if compare(t, a, b) != 1 || compare(t, b, a) != -1 || compare(t, a, a) != 0 {
		t.Error("numbers below 1")
	}
}

// P2.2

func TestP2_02ByHand(t *testing.T) {
	pairs(3, 400, func(a, b api.Rat) {
		num, den := plusByHand(a, b)
		got, e := ratio.Add(a, b)
		due(t, num, den, got, e)
		num, den = plusByHand(a, negated(b))
		got, e = ratio.Sub(a, b)
		due(t, num, den, got, e)
		got, e = ratio.Mul(a, b)
		due(t, byhand.Mul(a.Num, b.Num), byhand.Mul(a.Den, b.Den), got, e)
		got, e = ratio.Div(a, b)
		if b.Num != "0" {
			due(t, byhand.Mul(a.Num, b.Den), byhand.Mul(a.Den, b.Num), got, e)
		} else if got != (api.Rat{}) || e != api.ErrZero {
			t.Errorf("Div(%s, 0) = %s, %d", preview(a), preview(got), e)
		}
	})
}

func TestP2_02Small(t *testing.T) {
	all := small(2, 5)
	for _, a := range all {
		n, c := parts(a)
		for _, b := range all {
			m, d := parts(b)
			row(t, []string{rat(ratio.Add(a, b)), rat(ratio.Sub(a, b)), rat(ratio.Mul(a, b))}, written(machine(n*d+m*c, c*d)), written(machine(n*d-m*c, c*d)), written(machine(n*m, c*d)))
			if m > 0 {
				row(t, []string{rat(ratio.Div(a, b)), rat(ratio.Div(a, negated(b)))}, written(machine(n*d, c*m)), written(machine(-n*d, c*m)))
			}
		}
	}
}

// TestP2_02Limits has results of 400 and of 401 digits, and sums whose terms have many more digits on the way.
func TestP2_02Limits(t *testing.T) {
	add, sub, mul, div := ratio.Add, ratio.Sub, ratio.Mul, ratio.Div
	row(t, []string{rat(add(q(nines), q("1"))), rat(sub(q("-"+nines), q("1"))), rat(add(q(nines), q("-1"))), rat(add(q("-"+nines+"/2"), q("-"+nines+"/2"))), rat(add(q(nines+"/2"), q(nines+"/2"))), rat(sub(q(nines+"/2"), q("-"+nines+"/2")))}, "ErrLarge", "ErrLarge", nines[:399]+"8", "-"+nines, nines, nines)
	row(t, []string{rat(add(q("1/"+nines), q("1/"+tens))), rat(sub(q("1/"+nines), q("1/"+nines))), rat(add(q(nines), q("1/2"))), rat(add(q("-"+nines), q("1/2"))), rat(add(q(fives), q("1/2"))), rat(sub(q("-"+fives), q("1/2")))}, "ErrLarge", "0", "ErrLarge", "ErrLarge", nines+"/2", "-"+nines+"/2")
	row(t, []string{rat(mul(q(tens), q("10"))), rat(mul(q(tens), q("9"))), rat(mul(q(tens), q("1/"+tens))), rat(mul(q(nines+"/"+tens), q("-"+tens+"/"+nines))), rat(mul(q(nines[:201]), q(nines[:200]))), rat(mul(q("1/"+tens), q("1/10"))), rat(mul(q("-"+nines), q("0")))}, "ErrLarge", "9"+tens[1:], "1", "-1", "ErrLarge", "ErrLarge", "0")
	row(t, []string{rat(div(q(tens), q("1/10"))), rat(div(q(nines), q(nines))), rat(div(q("0"), q("-"+nines))), rat(div(q("1"), q("-"+nines))), rat(div(q(nines), q("0"))), rat(div(q("0"), q("0")))}, "ErrLarge", "1", "0", "-1/"+nines, "ErrZero", "ErrZero")
	// Numbers of 200 digits: the sum of both products across has 401.
	half := nines[:199] + "8"
	row(t, []string{rat(add(q(nines[:200]+"/"+half), q(nines[:200]+"/"+half)))}, nines[:200]+"/"+fives[:200])
	// Neighbours: the difference is 1 divided by both denominators.
	row(t, []string{rat(sub(q("1/"+nines[:200]), q("1/1"+strings.Repeat("0", 200)))), rat(sub(q("1/"+nines[:201]), q("1/1"+strings.Repeat("0", 201))))}, "1/"+nines[:200]+strings.Repeat("0", 200), "ErrLarge")
}

func TestP2_02Pow(t *testing.T) {
	for _, a := range []api.Rat{q("0"), q("1"), q("-1"), q("2"), q("-2/3"), q("1/2"), q("-1/10"), q("99/100"), q("-12345678901/98765432109"), q(nines[:20]), q(nines[:21]), q("1/" + nines[:40]), q(nines + "/" + tens), q("-1/" + nines)} {
		num, den := "1", "1"
		for n := range 21 {
			// Powers of numbers without a common divisor have none.
			want := [2]string{"ErrLarge", "ErrLarge"}
			if power := (api.Rat{Num: num, Den: den}); fits(power) {
				want = [2]string{written(power), written(power)}
				if byhand.Negative(num) {
					power = negated(api.Rat{Num: den, Den: byhand.Minus(num)})
				} else {
					power = api.Rat{Num: den, Den: num}
				}
				want[1] = written(power)
			}
			if a.Num == "0" && n > 0 {
				want[1] = "ErrZero"
			}
			row(t, []string{rat(ratio.Pow(a, n)), rat(ratio.Pow(a, -n))}, want[:]...)
			num, den = byhand.Mul(num, a.Num), byhand.Mul(den, a.Den)
		}
	}
}

func TestP2_02PowLimits(t *testing.T) {
	pow := ratio.Pow
	row(t, []string{rat(pow(q("1"), 20)), rat(pow(q("1"), -20)), rat(pow(q("1"), 21)), rat(pow(q("1"), -21)), rat(pow(q("0"), -21)), rat(pow(q("0"), 21)), rat(pow(q("1"), math.MinInt)), rat(pow(q("1"), math.MaxInt)), rat(pow(q("x"), 21)), rat(pow(q(tens), 2)), rat(pow(q(tens), 0)), rat(pow(q("-"+tens), -1)), rat(pow(q("10"), 20))}, "1", "1", "ErrValue", "ErrValue", "ErrValue", "ErrValue", "ErrValue", "ErrValue", "ErrForm", "ErrLarge", "1", "-1/"+tens, "1"+strings.Repeat("0", 20))
}

// P2.3

func TestP2_03ByHand(t *testing.T) {
	for _, a := range samples(4, 400) {
		below, e := ratio.Floor(a)
		rest := byhand.Add(a.Num, byhand.Minus(byhand.Mul(below, a.Den)))
		if e != api.OK || byhand.Negative(rest) || byhand.Compare(rest, a.Den) >= 0 {
			t.Errorf("Floor(%s) = %s, %d", preview(a), byhand.Preview(below), e)
		}
		near, e := ratio.Nearest(a)
		rest = byhand.Amount(byhand.Mul("2", byhand.Add(a.Num, byhand.Minus(byhand.Mul(near, a.Den)))))
		if c := byhand.Compare(rest, a.Den); e != api.OK || c > 0 || c == 0 && strings.Contains("13579", near[len(near)-1:]) {
			t.Errorf("Nearest(%s) = %s, %d", preview(a), byhand.Preview(near), e)
		}
	}
}

func TestP2_03Halves(t *testing.T) {
	for s, want := range map[string][2]string{
		"0": {"0", "0"}, "1/2": {"0", "0"}, "-1/2": {"-1", "0"}, "3/2": {"1", "2"}, "-3/2": {"-2", "-2"}, "5/2": {"2", "2"}, "-5/2": {"-3", "-2"}, "19/2": {"9", "10"}, "-19/2": {"-10", "-10"}, "4/9": {"0", "0"}, "5/9": {"0", "1"}, "-4/9": {"-1", "0"}, "-5/9": {"-1", "-1"}, "-3": {"-3", "-3"},
		nines: {nines, nines}, "-" + nines: {"-" + nines, "-" + nines}, nines + "/2": {fives, "5" + tens[1:]}, "-" + nines + "/2": {"-5" + tens[1:], "-5" + tens[1:]}, nines[:399] + "7/2": {fives[:399] + "8", fives[:399] + "8"}, "1/" + nines: {"0", "0"}, "-1/" + nines: {"-1", "0"},
		fives + "/" + nines: {"0", "0"}, "5" + tens[1:] + "/" + nines: {"0", "1"},
	} {
		row(t, []string{one(ratio.Floor(q(s))), one(ratio.Nearest(q(s)))}, want[0], want[1])
	}
	row(t, []string{one(ratio.Floor(q("2/2"))), one(ratio.Nearest(q(over)))}, "ErrForm", "ErrLarge")
}

// P2.4

// checkDecimal finds by hand whether s is a in so many places.
func checkDecimal(t *testing.T, a api.Rat, places int, s string, e api.Errno) {
	t.Helper()
	front, behind, point := strings.Cut(s, ".")
	digits := strings.TrimLeft(byhand.Amount(front)+behind, "0")
	if digits == "" {
		digits = "0"
	}
	n := digits
	if byhand.Negative(s) {
		n = byhand.Minus(digits)
	}
	// Twice the distance, times the denominator and the unit of the last place.
	rest := byhand.Mul("2", byhand.Add(byhand.Mul(a.Num, "1"+strings.Repeat("0", places)), byhand.Minus(byhand.Mul(n, a.Den))))
	c := byhand.Compare(byhand.Amount(rest), a.Den)
	if e != api.OK || c > 0 || c == 0 && strings.Contains("13579", s[len(s)-1:]) || len(behind) != places || point != (places > 0) || byhand.Negative(s) != byhand.Negative(n) || len(byhand.Amount(front)) > 1 && byhand.Amount(front)[0] == '0' {
		t.Errorf("Decimal(%s, %d) = %s, %d", preview(a), places, byhand.Preview(s), e)
	}
}

func TestP2_04ByHand(t *testing.T) {
	seed := byhand.Chance(5)
	for _, a := range samples(6, 400) {
		for _, places := range []int{0, 1, 2, seed.Below(200), 200} {
			s, e := ratio.Decimal(a, places)
			checkDecimal(t, a, places, s, e)
		}
	}
	for _, a := range append(small(1, 40), small(30, 2)...) {
		for places := range 4 {
			s, e := ratio.Decimal(a, places)
			checkDecimal(t, a, places, s, e)
		}
	}
}

func TestP2_04Limits(t *testing.T) {
	decimal := ratio.Decimal
	row(t, []string{one(decimal(q("0"), 0)), one(decimal(q("0"), 2)), one(decimal(q("-1/2"), 0)), one(decimal(q("-3/2"), 0)), one(decimal(q("-1/200"), 2)), one(decimal(q("-3/200"), 2)), one(decimal(q("999/1000"), 2)), one(decimal(q("-19999/2000"), 2)), one(decimal(q("9"), 3)), one(decimal(q("-1/3"), 1)), one(decimal(q("-1/100"), 1)), one(decimal(q("1/20"), 1)), one(decimal(q("3/20"), 1))}, "0", "0.00", "0", "-2", "0.00", "-0.02", "1.00", "-10.00", "9.000", "-0.3", "0.0", "0.0", "0.2")
	zeros := strings.Repeat("0", 200)
	row(t, []string{one(decimal(q("-"+nines), 200)), one(decimal(q(nines), 0)), one(decimal(q(nines+"/2"), 0)), one(decimal(q("-"+nines+"/2"), 1)), one(decimal(q("1/"+nines), 200)), one(decimal(q(nines[:399]+"8/"+nines), 200)), one(decimal(q("-"+tens+"/"+nines), 200))}, "-"+nines+"."+zeros, nines, "5"+tens[1:], "-"+fives+".5", "0."+zeros, "1."+zeros, "-0.1"+zeros[1:])
	row(t, []string{one(decimal(q("1"), -1)), one(decimal(q("1"), 201)), one(decimal(q("1"), math.MinInt)), one(decimal(q("1"), math.MaxInt)), one(decimal(q("2/2"), 201)), one(decimal(q(over), -1))}, "ErrValue", "ErrValue", "ErrValue", "ErrValue", "ErrForm", "ErrLarge")
}

// P2.5

func TestP2_05Small(t *testing.T) {
	for d := 1; d <= 180; d++ {
		for _, n := range []int{0, 1, 7, d - 1, d + 1, 31 * d, 1000} {
			front, period := expandBySearch(n, d)
			a := machine(n, d)
			row(t, []string{two(ratio.Expand(a))}, front+", "+period)
			if n > 0 {
				row(t, []string{two(ratio.Expand(negated(a)))}, "-"+front+", "+period)
			}
		}
	}
}

// TestP2_05Limits has expansions of 200 and of 201 digits, which end, and do not.
func TestP2_05Limits(t *testing.T) {
	expand := ratio.Expand
	zeros := strings.Repeat("0", 200)
	power := func(base string, n int) api.Rat {
		den := "1"
		for range n {
			den = byhand.Mul(den, base)
		}
		return q("1/" + den)
	}
	row(t, []string{two(expand(power("10", 200))), two(expand(power("10", 201))), two(expand(power("2", 201))), two(expand(power("5", 201)))}, "0."+zeros[1:]+"1, ", "ErrLarge", "ErrLarge", "ErrLarge")
	for _, base := range []string{"2", "5"} {
		if front, period, e := expand(power(base, 200)); len(front) != 202 || strings.HasSuffix(front, "0") || period != "" || e != api.OK {
			t.Error(front, period, e)
		}
	}
	row(t, []string{two(expand(q("1/" + nines[:200]))), two(expand(q("1/" + nines[:201]))), two(expand(q("-1/" + nines[:199] + "0"))), two(expand(q("1/" + nines[:199] + "00"))), two(expand(q("1/" + nines[:200] + "0")))}, "0., "+zeros[1:]+"1", "ErrLarge", "-0.0, "+zeros[2:]+"1", "ErrLarge", "ErrLarge")
	// 1/193 has a period of 192 digits, and 1/223 one of 222; divisions by 2 make the front longer.
	for i := range 12 {
		front, period, e := expand(q("1/" + byhand.Mul("193", byhand.Amount(power("2", i).Den))))
		if want := i <= 8; want != (e == api.OK) || want && (len(period) != 192 || len(front) != 2+i) || !want && (front+period != "" || e != api.ErrLarge) {
			t.Error(i, front, period, e)
		}
	}
	row(t, []string{two(expand(q("1/223"))), two(expand(q("1/" + nines))), two(expand(q(nines[:399] + "8/" + nines))), two(expand(q("-" + nines))), two(expand(q("-" + nines + "/2"))), two(expand(q("4/2"))), two(expand(q(over)))}, "ErrLarge", "ErrLarge", "ErrLarge", "-"+nines+", ", "-"+fives+".5, ", "ErrForm", "ErrLarge")
}

// P2.6

func TestP2_06Print(t *testing.T) {
	for _, a := range samples(7, 400) {
		row(t, []string{one(ratio.Print(a))}, written(a))
	}
	row(t, []string{one(ratio.Print(q("3/3"))), one(ratio.Print(api.Rat{})), one(ratio.Print(q(over))), one(ratio.Print(q("x")))}, "ErrForm", "ErrForm", "ErrLarge", "ErrForm")
}

func TestP2_06Parse(t *testing.T) {
	for s, want := range map[string]string{
		"0": "0", "-7": "-7", "7/2": "7/2", "-1/3": "-1/3", nines + "/" + tens: nines + "/" + tens, "-" + nines: "-" + nines,
		"0.0": "0", "-0.0": "0", "-0.000": "0", "1.0": "1", "0.5": "1/2", "-0.5": "-1/2", "0.05": "1/20", "0.50": "1/2", "0.005": "1/200", "12.125": "97/8", "-12.125": "-97/8", "10.10": "101/10", "9.99": "999/100",
		nines + ".0": nines, "-" + fives + ".5": "-" + nines + "/2", "0." + strings.Repeat("0", 199) + "1": "1/1" + strings.Repeat("0", 200), tens[:300] + "." + strings.Repeat("0", 200): tens[:300], "0." + strings.Repeat("3", 200): strings.Repeat("3", 200) + "/1" + strings.Repeat("0", 200),
	} {
		row(t, []string{rat(ratio.Parse(s))}, want)
	}
}

func TestP2_06ParseErrors(t *testing.T) {
	for _, s := range []string{"", "-", "/", ".", "-/", "-.", "x", "+1", " 1", "1 ", "1\n", "01", "-0", "--1", "-01", "1-", "1e5", "1,5", "\x00", "\xff", "\u0661", "1/", "/2", "-/2", "1//2", "1/2/3", "6/4", "0/2", "0/1", "7/1", "-7/1", "1/0", "1/-2", "1/+2", "01/2", "1/02", "-0/3", "1/2 ", nines + "/3",
		"1.", ".5", "-.5", "-1.", "00.5", "01.5", "-00.5", "--1.5", "+1.5", "1.2.3", "1..2", "1.5/2", "1/2.5", "1.-5", "1.+5", "1.5x", "1.5 ", "1. 5", "x.5", "1.\u0665", "0." + strings.Repeat("1", 201), "1." + strings.Repeat("0", 201),
		over + "/1", over + "/x", "x/" + over, over + ".", over + ".x", "0" + over + ".5", over + "." + strings.Repeat("0", 201), "1/-" + over} {
		row(t, []string{rat(ratio.Parse(s))}, "ErrForm")
	}
	for _, s := range []string{over, "-" + over, "1/" + over, over + "/3", over + "/" + over, over + ".0", "-" + over + ".25", nines + ".5", "-" + nines + ".9", "1" + tens + ".00000"} {
		row(t, []string{rat(ratio.Parse(s))}, "ErrLarge")
	}
}

// TestP2_06LongDecimals has decimals of more digits than a whole number may have.
func TestP2_06LongDecimals(t *testing.T) {
	seed := byhand.Chance(8)
	for _, size := range []int{1, 150, 250, 330, 350, 399, 400} {
		for _, places := range []int{1, 50, 130, 200} {
			front := byhand.Amount(seed.Number(size))
			num := byhand.Mul(front, "1"+strings.Repeat("0", places))
			// Some fractions have powers of 2 and 5 in common with the denominator.
			behind := byhand.Amount(seed.Number(places))
			for _, factor := range []string{"1", "32", "3125"} {
				behind = byhand.Mul(behind, factor)
				behind = strings.Repeat("0", max(0, places-len(behind))) + behind[max(0, len(behind)-places):]
				due := byhand.Add(num, "0"+behind)
				a, e := ratio.Parse(front + "." + behind)
				checkParsed(t, due, places, a, e)
				a, e = ratio.Parse("-" + front + "." + behind)
				checkParsed(t, byhand.Minus(due), places, a, e)
			}
		}
	}
}

func checkParsed(t *testing.T, num string, places int, a api.Rat, e api.Errno) {
	t.Helper()
	due(t, strings.Replace(num, "-0", "-", 1), "1"+strings.Repeat("0", places), a, e)
}

// P2.7

// ofTermsByHand returns the number of a continued fraction.
func ofTermsByHand(terms []string) (num, den string) {
	num, den = terms[len(terms)-1], "1"
	for i := len(terms) - 2; i >= 0; i-- {
		num, den = byhand.Add(byhand.Mul(terms[i], num), den), num
	}
	return num, den
}

func TestP2_07Fraction(t *testing.T) {
	for _, a := range append(samples(9, 400), small(2, 20)...) {
		terms, e := ratio.Fraction(a)
		if e != api.OK || len(terms) == 0 {
			t.Fatalf("Fraction(%s): %d terms, error %d", preview(a), len(terms), e)
		}
		num, den := ofTermsByHand(terms)
		if byhand.Mul(num, a.Den) != byhand.Mul(a.Num, den) {
			t.Errorf("Fraction(%s) = %v", preview(a), terms)
		}
		for i, term := range terms[1:] {
			if least := [2]string{"1", "2"}[(i+2)/len(terms)]; byhand.Compare(term, least) < 0 {
				t.Errorf("Fraction(%s): term %d is %s", preview(a), i+1, term)
			}
		}
	}
	row(t, []string{list(ratio.Fraction(q("0"))), list(ratio.Fraction(q("-" + nines))), list(ratio.Fraction(q("1/" + nines))), list(ratio.Fraction(q("-1/2"))), list(ratio.Fraction(q("-1/3"))), list(ratio.Fraction(q("2/4"))), list(ratio.Fraction(q(over)))}, "0", "-"+nines, "0 "+nines, "-1 2", "-1 1 2", "ErrForm", "ErrLarge")
}

// TestP2_07Long has a fraction of more terms than OfFraction takes: there is no limit for Fraction.
func TestP2_07Long(t *testing.T) {
	last, next := "1", "2"
	for range 500 {
		last, next = next, byhand.Add(last, next)
	}
	terms, e := ratio.Fraction(api.Rat{Num: next, Den: last})
	if e != api.OK || !slices.Equal(terms, append(slices.Repeat([]string{"1"}, 500), "2")) {
		t.Error(len(terms), e)
	}
}

func TestP2_07OfFraction(t *testing.T) {
	seed := byhand.Chance(10)
	for range 200 {
		terms := []string{seed.Number(1 + seed.Below(60))}
		if terms[0] == "-0" {
			terms[0] = "0"
		}
		for range seed.Below(12) {
			terms = append(terms, byhand.Add(byhand.Amount(seed.Number(1+seed.Below(60))), "1"))
		}
		num, den := ofTermsByHand(terms)
		got, e := ratio.OfFraction(terms)
		due(t, num, den, got, e)
	}
}

func TestP2_07OfFractionErrors(t *testing.T) {
	ones := slices.Repeat([]string{"1"}, 200)
	of := func(terms ...string) string { return rat(ratio.OfFraction(terms)) }
	row(t, []string{of(), of(append(ones, "1")...), of(append(ones, "x")...), of("x"), of(over), of("1", "x"), of("1", ""), of("1", over), of("1", over, "x"), of("1", "x", over)}, "ErrFew", "ErrMany", "ErrMany", "ErrForm", "ErrLarge", "ErrForm", "ErrForm", "ErrLarge", "ErrLarge", "ErrForm")
	// All terms are numbers before one of them is too small.
	row(t, []string{of("0", "0"), of("0", "-1"), of("0", "1", "0"), of("0", "0", "x"), of("0", "-1", over), of("0", "-0"), of(append(ones[:199:199], "0")...)}, "ErrValue", "ErrValue", "ErrValue", "ErrForm", "ErrLarge", "ErrForm", "ErrValue")
	row(t, []string{of("0"), of("-5"), of("0", "1"), of("-1", "1"), of("-3", "1", "1"), of("-1", "2"), of("2", "1", "1")}, "0", "-5", "1", "0", "-5/2", "-1/2", "5/2")
	power := "1" + strings.Repeat("0", 200)
	row(t, []string{of(nines, "1"), of("-"+nines, "1"), of("-"+nines, "2"), of("0", nines), of("0", "1", nines), of(power, power), of("-"+power, power), of("-"+power, byhand.Add(power, "1")), of("-"+tens, "1", nines), of("-"+tens, "1", "9")}, "ErrLarge", "-"+nines[:399]+"8", "ErrLarge", "1/"+nines, "ErrLarge", "ErrLarge", "-"+nines+"/"+power, "ErrLarge", "ErrLarge", "-"+nines[:399]+"1/10")
	if a, e := ratio.OfFraction(ones); e != api.OK || a.Num != "453973694165307953197296969697410619233826" || a.Den != "280571172992510140037611932413038677189525" {
		t.Error(a, e)
	}
}

// P2.8

func TestP2_08BetweenSmall(t *testing.T) {
	all := small(2, 7)
	for _, a := range all {
		for _, b := range all {
			if byhand.Order(a, b) < 0 {
				row(t, []string{rat(ratio.Between(a, b))}, written(betweenBySearch(a, b)))
			} else {
				row(t, []string{rat(ratio.Between(a, b))}, "ErrOrder")
			}
		}
	}
}

func TestP2_08BetweenLimits(t *testing.T) {
	between := ratio.Between
	row(t, []string{rat(between(q("-"+nines), q(nines))), rat(between(q("1"), q(nines))), rat(between(q("-"+nines), q("-1"))), rat(between(q("-5/2"), q("0"))), rat(between(q("0"), q("5/2"))), rat(between(q("0"), q("1/"+nines))), rat(between(q("-1/"+nines), q("0"))), rat(between(q("0"), q("2/"+nines))), rat(between(q(nines[:399]+"8"), q(nines)))}, "0", "2", "-2", "-1", "1", "ErrLarge", "ErrLarge", "1/5"+tens[1:], "ErrLarge")
	row(t, []string{rat(between(q("x"), q(over))), rat(between(q(over), q("x"))), rat(between(q("1"), q("2/2"))), rat(between(q("2"), q("1"))), rat(between(q("2"), q(over))), rat(between(q(nines), q(nines)))}, "ErrForm", "ErrLarge", "ErrForm", "ErrOrder", "ErrLarge", "ErrOrder")
	row(t, []string{rat(between(q("314/100"), q("22/7"))), rat(between(q("157/50"), q("22/7"))), rat(between(q("-22/7"), q("-157/50"))), rat(between(q("333/106"), q("22/7"))), rat(between(q("7/2"), q("9/2"))), rat(between(q("3"), q("7/2")))}, "ErrForm", "179/57", "-179/57", "355/113", "4", "10/3")
}

func TestP2_08NearSmall(t *testing.T) {
	for _, a := range small(2, 25) {
		for most := 1; most <= 26; most++ {
			row(t, []string{rat(ratio.Near(a, most))}, written(nearBySearch(a, most)))
		}
	}
}

func TestP2_08NearLimits(t *testing.T) {
	near := ratio.Near
	row(t, []string{rat(near(q("1"), 0)), rat(near(q("1"), -1)), rat(near(q("1"), 1000001)), rat(near(q("1"), math.MaxInt)), rat(near(q("1"), math.MinInt)), rat(near(q("2/2"), 0)), rat(near(q(over), 0)), rat(near(q("0"), 1)), rat(near(q("1/1000000"), 1000000)), rat(near(q("1/1000001"), 1000000)), rat(near(q("1/2000001"), 1000000)), rat(near(q("1/2000000"), 1000000)), rat(near(q("1/1999999"), 1000000))}, "ErrValue", "ErrValue", "ErrValue", "ErrValue", "ErrValue", "ErrForm", "ErrLarge", "0", "1/1000000", "1/1000000", "0", "0", "1/1000000")
	row(t, []string{rat(near(q("1/2"), 1)), rat(near(q("-1/2"), 1)), rat(near(q("3/2"), 1)), rat(near(q("-3/2"), 1)), rat(near(q("5/2"), 1)), rat(near(q("7/12"), 4)), rat(near(q("5/12"), 4)), rat(near(q("-3/8"), 2)), rat(near(q("3/4"), 3))}, "0", "0", "1", "-1", "2", "1/2", "1/2", "-1/2", "2/3")
	row(t, []string{rat(near(q("-"+nines+"/2"), 1)), rat(near(q(nines+"/"+tens), 1000000)), rat(near(q("1/"+nines), 1000000)), rat(near(q("-"+nines+"/2"), 2)), rat(near(q("-"+nines), 1))}, "-"+fives, "10", "0", "-"+nines+"/2", "-"+nines)
}

// TestP2_08NearLong looks at each denominator that is allowed.
func TestP2_08NearLong(t *testing.T) {
	seed := byhand.Chance(12)
	for _, a := range samples(11, 350) {
		most := 1 + seed.Below(9)
		got, e := ratio.Near(a, most)
		if den, _ := strconv.Atoi(got.Den); e != api.OK || ratio.Check(got) != api.OK || den > most {
			t.Fatalf("Near(%s, %d) = %s, %s", preview(a), most, preview(got), outcome.Name(e))
		}
		distance := func(b api.Rat) api.Rat {
			num, den := plusByHand(a, negated(b))
			return api.Rat{Num: byhand.Amount(num), Den: den}
		}
		for den := 1; den <= most; den++ {
			for _, step := range []string{"0", "1"} {
				below, _ := byhand.Divide(byhand.Mul(byhand.Amount(a.Num), strconv.Itoa(den)), a.Den)
				other := api.Rat{Num: byhand.Add(below, step), Den: strconv.Itoa(den)}
				if byhand.Negative(a.Num) {
					other = negated(other)
				}
				if c := byhand.Order(distance(got), distance(other)); c > 0 || c == 0 && got.Den != "1" && strconv.Itoa(den) < got.Den {
					t.Errorf("Near(%s, %d) = %s, but %s is nearer", preview(a), most, preview(got), preview(other))
				}
			}
		}
	}
}
