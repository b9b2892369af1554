package whole_test

import (
	"math"
	"slices"
	"strconv"
	"strings"
	"testing"

	"metewand/api"
	"metewand/internal/byhand"
	"metewand/whole"
)

var (
	nines = strings.Repeat("9", 400)       // the greatest number
	tens  = "1" + strings.Repeat("0", 399) // the least one of 400 digits
	over  = "1" + strings.Repeat("0", 400) // of 401 digits
)

// P1.1

func TestP1_01Check(t *testing.T) {
	for a, want := range map[string]api.Errno{
		"0": api.OK, "7": api.OK, "-1": api.OK, "10": api.OK, "1234567890123456789012": api.OK,
		nines: api.OK, "-" + nines: api.OK, tens: api.OK, "-" + tens: api.OK,
		"": api.ErrForm, "-": api.ErrForm, "-0": api.ErrForm, "00": api.ErrForm, "01": api.ErrForm, "-01": api.ErrForm,
		"+1": api.ErrForm, "--1": api.ErrForm, "1-": api.ErrForm, "1-1": api.ErrForm, " 1": api.ErrForm, "1 ": api.ErrForm, "1\n": api.ErrForm,
		"1.0": api.ErrForm, "1e3": api.ErrForm, "0x1": api.ErrForm, "1_000": api.ErrForm, "a": api.ErrForm, "A": api.ErrForm,
		"\u0661": api.ErrForm, "\uff11": api.ErrForm, "1\x00": api.ErrForm, "\xff": api.ErrForm, "1\x80": api.ErrForm, "/": api.ErrForm, ":": api.ErrForm,
		over: api.ErrLarge, "-" + over: api.ErrLarge, strings.Repeat("1", 100000): api.ErrLarge,
		// The form comes before the length.
		"0" + over: api.ErrForm, over + "x": api.ErrForm, "-0" + over: api.ErrForm, strings.Repeat("0", 401): api.ErrForm,
	} {
		if got := whole.Check(a); got != want {
			t.Errorf("Check(%s) = %d, want %d", byhand.Preview(a), got, want)
		}
	}
}

func TestP1_01Compare(t *testing.T) {
	ascending := []string{"-" + nines, "-" + tens, "-1000000000000000000", "-999999999999999999", "-10", "-9", "-1", "0", "1", "2", "9", "10", "999999999", "1000000000", "999999999999999999", "1000000000000000000", "1000000000000000001", "2000000000000000000", tens, nines}
	for i, a := range ascending {
		for j, b := range ascending {
			want := 0
			if i < j {
				want = -1
			} else if i > j {
				want = 1
			}
			if got := compare(t, a, b); got != want {
				t.Errorf("Compare(%s, %s) = %d, want %d", byhand.Preview(a), byhand.Preview(b), got, want)
			}
		}
	}
	pairs(1, 400, func(a, b string) {
		if got := compare(t, a, b); got != byhand.Compare(a, b) {
			t.Errorf("Compare(%s, %s) = %d", byhand.Preview(a), byhand.Preview(b), got)
		}
	})
}

// P1.2

func TestP1_02ByHand(t *testing.T) {
	pairs(2, 400, func(a, b string) {
		for _, x := range []struct {
			name string
			of   func(a, b string) (string, api.Errno)
			due  string
		}{{"Add", whole.Add, byhand.Add(a, b)}, {"Sub", whole.Sub, byhand.Add(a, byhand.Minus(b))}, {"Mul", whole.Mul, byhand.Mul(a, b)}} {
			got, e := x.of(a, b)
			want, f := fits(x.due)
			if got != want || e != f {
				t.Errorf("%s(%s, %s) = %s, %d, want %s, %d", x.name, byhand.Preview(a), byhand.Preview(b), byhand.Preview(got), e, byhand.Preview(want), f)
			}
		}
	})
}

func TestP1_02Limits(t *testing.T) {
	row(t, []string{one(whole.Add(nines, "1")), one(whole.Add("-1", "-"+nines)), one(whole.Sub("-"+nines, "1")), one(whole.Sub(nines, "-1"))}, "ErrLarge", "ErrLarge", "ErrLarge", "ErrLarge")
	row(t, []string{one(whole.Add(nines, "0")), one(whole.Add(nines, "-"+nines)), one(whole.Sub(nines, nines)), one(whole.Sub(tens, "1"))}, nines, "0", "0", nines[1:])
	row(t, []string{one(whole.Mul(tens, "10")), one(whole.Mul(tens, "9")), one(whole.Mul(nines, nines)), one(whole.Mul(nines, "-1")), one(whole.Mul("-"+nines, "0"))}, "ErrLarge", "9"+tens[1:], "ErrLarge", "-"+nines, "0")
	// Products of smalls that need more than a machine word.
	row(t, []string{one(whole.Mul("999999999999999999", "-999999999999999999")), one(whole.Mul("3037000500", "3037000500")), one(whole.Mul("4294967296", "4294967296"))}, "-999999999999999998000000000000000001", "9223372037000250000", "18446744073709551616")
	// Two factors of 200 digits whose product has 400, and of 201 and 200 digits whose product has 401.
	row(t, []string{one(whole.Mul(nines[:200], nines[:200])), one(whole.Mul(nines[:201], nines[:200]))}, nines[:199]+"8"+strings.Repeat("0", 199)+"1", "ErrLarge")
}

// P1.3

func TestP1_03ByHand(t *testing.T) {
	pairs(3, 400, func(a, b string) {
		q, r, e := whole.Floor(a, b)
		p, s, f := whole.Quo(a, b)
		if b == "0" {
			row(t, []string{two(q, r, e), two(p, s, f)}, "ErrZero", "ErrZero")
			return
		}
		if e != api.OK || f != api.OK || sumOfProducts(q, b, r, "1") != a || sumOfProducts(p, b, s, "1") != a {
			t.Errorf("%s by %s: %s and %s, %d; %s and %s, %d", byhand.Preview(a), byhand.Preview(b), byhand.Preview(q), byhand.Preview(r), e, byhand.Preview(p), byhand.Preview(s), f)
		}
		// The remainder shows the law of rounding.
		if byhand.Compare(byhand.Amount(r), byhand.Amount(b)) >= 0 || r != "0" && byhand.Negative(r) != byhand.Negative(b) {
			t.Errorf("Floor(%s, %s): remainder %s", byhand.Preview(a), byhand.Preview(b), byhand.Preview(r))
		}
		if byhand.Compare(byhand.Amount(s), byhand.Amount(b)) >= 0 || s != "0" && byhand.Negative(s) != byhand.Negative(a) {
			t.Errorf("Quo(%s, %s): remainder %s", byhand.Preview(a), byhand.Preview(b), byhand.Preview(s))
		}
	})
}

func TestP1_03Limits(t *testing.T) {
	row(t, []string{two(whole.Floor("-"+nines, nines)), two(whole.Floor("-1", nines)), two(whole.Floor("1", "-"+nines)), two(whole.Floor(nines, "-1"))}, "-1, 0", "-1, "+nines[1:]+"8", "-1, -"+nines[1:]+"8", "-"+nines+", 0")
	row(t, []string{two(whole.Quo("-1", nines)), two(whole.Quo("-"+nines, "-1")), two(whole.Quo("0", "-5")), two(whole.Floor("0", "-5"))}, "0, -1", nines+", 0", "0, 0", "0, 0")
	row(t, []string{two(whole.Floor("0", "0")), two(whole.Quo("0", "0")), two(whole.Quo(nines, "0")), two(whole.Floor("-3", "0"))}, "ErrZero", "ErrZero", "ErrZero", "ErrZero")
	// A quotient's limb that is guessed too large.
	row(t, []string{two(whole.Floor("1"+strings.Repeat("0", 27), "1000000000000000001"))}, "999999999, 999999999000000001")
}

// P1.4

func checkGcd(t *testing.T, a, b string) {
	t.Helper()
	g, x, y, e := whole.Gcd(a, b)
	switch {
	case e != api.OK:
		t.Fatalf("Gcd(%s, %s): error %d", byhand.Preview(a), byhand.Preview(b), e)
	case b == "0" && (g != byhand.Amount(a) || y != "0" || x != strconv.Itoa(byhand.Compare(a, "0"))):
		t.Errorf("Gcd(%s, 0) = %s, %s, %s", byhand.Preview(a), byhand.Preview(g), x, y)
	case sumOfProducts(a, x, b, y) != g || byhand.Negative(g):
		t.Errorf("Gcd(%s, %s) = %s, %s, %s", byhand.Preview(a), byhand.Preview(b), byhand.Preview(g), byhand.Preview(x), byhand.Preview(y))
	case b == "0":
		return
	}
	for _, n := range []string{a, b} {
		if _, r, e := whole.Quo(n, g); r != "0" || e != api.OK {
			t.Errorf("Gcd(%s, %s) = %s, which does not divide %s", byhand.Preview(a), byhand.Preview(b), byhand.Preview(g), byhand.Preview(n))
		}
	}
	// x can be changed by multiples of b/g alone.
	if step, _, _ := whole.Quo(byhand.Amount(b), g); byhand.Negative(x) || byhand.Compare(x, step) >= 0 {
		t.Errorf("Gcd(%s, %s): x is %s", byhand.Preview(a), byhand.Preview(b), byhand.Preview(x))
	}
}

func TestP1_04Factors(t *testing.T) {
	pairs(4, 400, func(a, b string) { checkGcd(t, a, b) })
	for a := -30; a <= 30; a++ {
		for b := -30; b <= 30; b++ {
			checkGcd(t, strconv.Itoa(a), strconv.Itoa(b))
		}
	}
}

func TestP1_04CommonDivisors(t *testing.T) {
	pairs(5, 133, func(a, b string) {
		seed := byhand.Chance(len(a) + 7*len(b))
		c := byhand.Amount(seed.Number(1 + seed.Below(200)))
		checkGcd(t, byhand.Mul(a, c), byhand.Mul(b, c))
		g, _, _, _ := whole.Gcd(a, b)
		if h, _, _, _ := whole.Gcd(byhand.Mul(a, c), byhand.Mul(b, c)); h != byhand.Mul(g, c) {
			t.Errorf("Gcd of %s and %s times %s is %s", byhand.Preview(a), byhand.Preview(b), byhand.Preview(c), byhand.Preview(h))
		}
	})
}

// TestP1_04Quotients has neighbours in the sequence of Fibonacci, whose quotients are all 1, and others whose first quotient is large.
func TestP1_04Quotients(t *testing.T) {
	last, next := "1", "1"
	for len(next) < 400 {
		last, next = next, must(t)(whole.Add(last, next))
		if len(next)%7 == 0 {
			checkGcd(t, last, next)
			checkGcd(t, next, last)
		}
	}
	for _, x := range [][2]string{{nines, "2"}, {"2", nines}, {nines, tens}, {tens, nines}, {nines, nines}, {"-" + nines, nines}, {tens, "1000000000000000000000"}, {nines, "1000000000000000000001"}, {nines, "0"}, {"-" + nines, "0"}, {"0", nines}, {"0", "-" + nines}} {
		checkGcd(t, x[0], x[1])
	}
	row(t, []string{three(whole.Gcd("0", "0")), three(whole.Gcd("0", "-3")), three(whole.Gcd("9", "0")), three(whole.Gcd("5", "5")), three(whole.Gcd("-5", "-5")), three(whole.Gcd("3", "1"))}, "0, 0, 0", "3, 0, -1", "9, 1, 0", "5, 0, 1", "5, 0, -1", "1, 0, 1")
}

// P1.5

func TestP1_05Pow(t *testing.T) {
	for _, a := range []string{"2", "-2", "3", "-10", "99", "-123456789", "1000000001", "98765432109876543210", nines[:40]} {
		due := "1"
		for n := range 60 {
			got, e := whole.Pow(a, n)
			want, f := fits(due)
			if got != want || e != f {
				t.Errorf("Pow(%s, %d) = %s, %d, want %s, %d", a, n, byhand.Preview(got), e, byhand.Preview(want), f)
			}
			due = byhand.Mul(due, a)
		}
	}
}

func TestP1_05PowLimits(t *testing.T) {
	row(t, []string{one(whole.Pow("0", 0)), one(whole.Pow("0", 1)), one(whole.Pow("0", 1000)), one(whole.Pow("1", 1000)), one(whole.Pow("-1", 1000)), one(whole.Pow("-1", 999)), one(whole.Pow(nines, 0)), one(whole.Pow("-"+nines, 1))}, "1", "0", "0", "1", "1", "-1", "1", "-"+nines)
	row(t, []string{one(whole.Pow("10", 399)), one(whole.Pow("-10", 399)), one(whole.Pow("10", 400)), one(whole.Pow(nines, 2)), one(whole.Pow(nines, 1000)), one(whole.Pow(nines[:200], 2)), one(whole.Pow(nines[:201], 2))}, tens, "-"+tens, "ErrLarge", "ErrLarge", "ErrLarge", must(t)(whole.Mul(nines[:200], nines[:200])), "ErrLarge")
	row(t, []string{one(whole.Pow("2", -1)), one(whole.Pow("1", 1001)), one(whole.Pow("0", -1)), one(whole.Pow("1", math.MaxInt)), one(whole.Pow("1", math.MinInt)), one(whole.Pow(nines, 1001))}, "ErrValue", "ErrValue", "ErrValue", "ErrValue", "ErrValue", "ErrValue")
	if s := must(t)(whole.Pow("2", 1000)); len(s) != 302 || !strings.HasPrefix(s, "10715086071862673209") || !strings.HasSuffix(s, "5668069376") {
		t.Error(s)
	}
}

func TestP1_05PowMod(t *testing.T) {
	seed := byhand.Chance(6)
	for range 60 {
		a, m := seed.Number(1+seed.Below(60)), byhand.Amount(seed.Number(1+seed.Below(60)))
		for n, due := 0, "1"; n < 25; n++ {
			_, want, _ := whole.Floor(must(t)(whole.Add(due, "0")), m)
			if got := must(t)(whole.PowMod(a, strconv.Itoa(n), m)); got != want {
				t.Errorf("PowMod(%s, %d, %s) = %s, want %s", a, n, m, got, want)
			}
			_, due, _ = whole.Floor(byhand.Mul(want, a), m)
		}
	}
}

// TestP1_05Fermat has large exponents: if p is a prime, and does not divide a, the remainder of a to the power p - 1 is 1.
func TestP1_05Fermat(t *testing.T) {
	two := must(t)(whole.Pow("2", 521))
	for _, p := range []string{"1000000007", "170141183460469231731687303715884105727", must(t)(whole.Sub(two, "1"))} {
		n := must(t)(whole.Sub(p, "1"))
		for _, a := range []string{"2", "-3", "123456789123456789123456789", nines} {
			row(t, []string{one(whole.PowMod(a, n, p))}, "1")
		}
		row(t, []string{one(whole.PowMod(p, n, p)), one(whole.PowMod("-1", p, p))}, "0", n)
	}
}

func TestP1_05PowModLimits(t *testing.T) {
	row(t, []string{one(whole.PowMod("9", "0", "1")), one(whole.PowMod("0", "0", "1")), one(whole.PowMod("0", "0", "2")), one(whole.PowMod(nines, nines, "1")), one(whole.PowMod("0", nines, nines)), one(whole.PowMod("-2", "3", "5"))}, "0", "0", "1", "0", "0", "2")
	// The power 400 of 10 is 1 if multiples of nines do not count, so that exponents may be taken by 400.
	row(t, []string{one(whole.PowMod(tens, nines, nines)), one(whole.PowMod("-1", nines, nines)), one(whole.PowMod("10", "400", nines))}, "10", nines[1:]+"8", "1")
	row(t, []string{one(whole.PowMod("2", "-1", "5")), one(whole.PowMod("2", "1", "0")), one(whole.PowMod("2", "1", "-5")), one(whole.PowMod("2", "-1", "0")), one(whole.PowMod("2", "-"+nines, nines))}, "ErrValue", "ErrValue", "ErrValue", "ErrValue", "ErrValue")
}

// P1.6

func checkRoot(t *testing.T, a string, n int) {
	t.Helper()
	r := must(t)(whole.Root(a, n))
	power, above := "1", "1"
	for range n {
		power, above = byhand.Mul(power, r), byhand.Mul(above, byhand.Add(r, "1"))
	}
	if byhand.Negative(r) || byhand.Compare(power, a) > 0 || byhand.Compare(above, a) <= 0 {
		t.Errorf("Root(%s, %d) = %s", byhand.Preview(a), n, byhand.Preview(r))
	}
}

func TestP1_06Root(t *testing.T) {
	for n := 1; n <= 20; n++ {
		for _, a := range append(samples(byhand.Chance(n), 60), nines, tens) {
			checkRoot(t, byhand.Amount(a), n)
		}
		for a := range 70 {
			checkRoot(t, strconv.Itoa(a), n)
		}
	}
	for _, n := range []int{2, 3, 7, 20} {
		for _, a := range samples(7, 400) {
			checkRoot(t, byhand.Amount(a), n)
		}
	}
}

// TestP1_06Powers has powers, and the numbers beside them.
func TestP1_06Powers(t *testing.T) {
	for n := 2; n <= 20; n++ {
		for _, r := range []string{"2", "3", "10", "99", "1000", "99999999999999999999"} {
			power := must(t)(whole.Pow(r, n))
			below := must(t)(whole.Sub(r, "1"))
			row(t, []string{one(whole.Root(power, n)), one(whole.Root(must(t)(whole.Add(power, "1")), n)), one(whole.Root(must(t)(whole.Sub(power, "1")), n))}, r, r, below)
		}
	}
}

func TestP1_06Limits(t *testing.T) {
	row(t, []string{one(whole.Root("0", 1)), one(whole.Root("0", 20)), one(whole.Root("1", 20)), one(whole.Root(nines, 1)), one(whole.Root(nines, 2))}, "0", "0", "1", nines, nines[:200])
	row(t, []string{one(whole.Root("4", 0)), one(whole.Root("4", 21)), one(whole.Root("4", -1)), one(whole.Root("4", math.MaxInt)), one(whole.Root("4", math.MinInt)), one(whole.Root("-8", 3)), one(whole.Root("-1", 1)), one(whole.Root("-1", 0))}, "ErrValue", "ErrValue", "ErrValue", "ErrValue", "ErrValue", "ErrValue", "ErrValue", "ErrValue")
}

// P1.7

// digitsOf returns the digits of a in the base by divisions of whole numbers by hand.
func digitsOf(t *testing.T, a string, base int) string {
	t.Helper()
	text, rest := "", byhand.Amount(a)
	for rest != "0" || text == "" {
		q, r, _ := whole.Floor(rest, strconv.Itoa(base))
		n, _ := strconv.Atoi(r)
		text, rest = strconv.FormatInt(int64(n), base)+text, q
	}
	if byhand.Negative(a) {
		return "-" + text
	}
	return text
}

func TestP1_07Base(t *testing.T) {
	for base := 2; base <= 36; base++ {
		for _, a := range samples(byhand.Chance(base), 90) {
			want := digitsOf(t, a, base)
			row(t, []string{one(whole.Base(a, base)), one(whole.FromBase(want, base))}, want, a)
		}
		// Powers of the base, and the numbers beside them, have zeros and greatest digits.
		power := must(t)(whole.Pow(strconv.Itoa(base), 70))
		last := strconv.FormatInt(int64(base-1), base)
		row(t, []string{one(whole.Base(power, base)), one(whole.Base(must(t)(whole.Sub(power, "1")), base)), one(whole.FromBase("-1"+strings.Repeat("0", 70), base))}, "1"+strings.Repeat("0", 70), strings.Repeat(last, 70), byhand.Minus(power))
	}
}

func TestP1_07BaseLimits(t *testing.T) {
	row(t, []string{one(whole.Base("0", 2)), one(whole.Base("0", 36)), one(whole.Base(nines, 10)), one(whole.Base("-"+nines, 10)), one(whole.Base("35", 36))}, "0", "0", nines, "-"+nines, "z")
	for _, base := range []int{1, 0, -1, -2, 37, math.MaxInt, math.MinInt} {
		row(t, []string{one(whole.Base("8", base)), one(whole.FromBase("1", base)), one(whole.FromBase("", base)), one(whole.FromBase("!", base))}, "ErrValue", "ErrValue", "ErrValue", "ErrValue")
	}
	// The digits in the base 2 are no whole number: they may be more than 400.
	bits := must(t)(whole.Base(nines, 2))
	row(t, []string{strconv.Itoa(len(bits)), one(whole.FromBase(bits, 2)), one(whole.FromBase("-"+bits, 2))}, "1329", nines, "-"+nines)
}

func TestP1_07FromBaseErrors(t *testing.T) {
	for _, x := range []struct {
		s    string
		base int
	}{{"", 10}, {"-", 10}, {"-0", 10}, {"00", 10}, {"01", 2}, {"-01", 2}, {"2", 2}, {"12", 2}, {"9", 9}, {"a", 10}, {"g", 16}, {"z", 35}, {"A", 16}, {"Z", 36}, {"+1", 10}, {"--1", 10}, {"1-", 10}, {" 1", 10}, {"1 ", 10}, {"1.", 10}, {"\u0661", 10}, {"\xff", 36}, {"{", 36}, {"`", 36}, {"/", 36}, {":", 36}, {"@", 36}, {strings.Repeat("1", 5000) + "2", 2}, {"0" + strings.Repeat("1", 5000), 2}} {
		row(t, []string{one(whole.FromBase(x.s, x.base))}, "ErrForm")
	}
	// The least numbers that are too large.
	for base := 2; base <= 36; base++ {
		s := must(t)(whole.Base(nines, base))
		row(t, []string{one(whole.FromBase(addOne(s, base), base)), one(whole.FromBase(s+"0", base)), one(whole.FromBase("-"+s+s, base)), one(whole.FromBase(strings.Repeat("1", 100000), base))}, "ErrLarge", "ErrLarge", "ErrLarge", "ErrLarge")
	}
}

// addOne adds 1 to digits of a base.
func addOne(s string, base int) string {
	for i := len(s) - 1; i >= 0; i-- {
		n, _ := strconv.ParseInt(s[i:i+1], base, 64)
		if n < int64(base-1) {
			return s[:i] + strconv.FormatInt(n+1, base) + strings.Repeat("0", len(s)-1-i)
		}
	}
	return "1" + strings.Repeat("0", len(s))
}

// P1.8

func TestP1_08Factor(t *testing.T) {
	for n := 1; n <= 1000000; n += 1 + n/300 {
		var want []string
		for rest, d := n, 2; rest > 1; {
			if rest%d == 0 {
				want = append(want, strconv.Itoa(d))
				rest /= d
			} else {
				d++
			}
		}
		got, e := whole.Factor(strconv.Itoa(n))
		if !slices.Equal(got, want) || e != api.OK {
			t.Errorf("Factor(%d) = %v, %d", n, got, e)
		}
	}
}

func TestP1_08FactorLimits(t *testing.T) {
	row(t, []string{primes("1"), primes("2"), primes("4"), primes("999983"), primes("999999"), primes("1000000"), primes("994009"), primes("524288")}, "", "2", "2 2", "999983", "3 3 3 7 11 13 37", "2 2 2 2 2 2 5 5 5 5 5 5", "997 997", strings.TrimSpace(strings.Repeat("2 ", 19)))
	row(t, []string{primes("0"), primes("-1"), primes("-6"), primes("-" + nines), primes("-1000001")}, "ErrValue", "ErrValue", "ErrValue", "ErrValue", "ErrValue")
	row(t, []string{primes("1000001"), primes("999999999999999999"), primes("1000000000000000000"), primes(nines)}, "ErrLarge", "ErrLarge", "ErrLarge", "ErrLarge")
}
