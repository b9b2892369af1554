package whole_test

import (
	"strconv"
	"testing"

	"metewand/api"
	"metewand/internal/byhand"
	"metewand/whole"
)

// triples calls check with triples of samples of up to so many digits.
func triples(seed byhand.Chance, most int, check func(a, b, c string)) {
	list := samples(seed, most)
	for _, a := range list {
		for range 10 {
			check(a, list[seed.Below(len(list))], list[seed.Below(len(list))])
		}
	}
}

// P1.9

func TestP1_09Ring(t *testing.T) {
	triples(21, 133, func(a, b, c string) {
		get := must(t)
		add := func(x, y string) string { return get(whole.Add(x, y)) }
		mul := func(x, y string) string { return get(whole.Mul(x, y)) }
		row(t, []string{add(a, b), add(add(a, b), c), mul(a, b), mul(mul(a, b), c), mul(a, add(b, c))}, add(b, a), add(a, add(b, c)), mul(b, a), mul(a, mul(b, c)), add(mul(a, b), mul(a, c)))
		row(t, []string{get(whole.Sub(add(a, b), b)), add(get(whole.Sub(a, b)), b), add(a, "0"), mul(a, "1"), mul(a, "0"), get(whole.Sub(a, a))}, a, a, a, a, "0", "0")
	})
}

// P1.10

func TestP1_10Division(t *testing.T) {
	pairs(22, 399, func(a, b string) {
		if b == "0" {
			return
		}
		for _, divide := range []func(a, b string) (string, string, api.Errno){whole.Floor, whole.Quo} {
			q, r, e := divide(a, b)
			if e != api.OK || must(t)(whole.Add(must(t)(whole.Mul(q, b)), r)) != a {
				t.Errorf("%s by %s: %s and %s, %d", byhand.Preview(a), byhand.Preview(b), byhand.Preview(q), byhand.Preview(r), e)
			}
			if compare(t, byhand.Amount(r), byhand.Amount(b)) >= 0 {
				t.Errorf("%s by %s: the remainder %s is too large", byhand.Preview(a), byhand.Preview(b), byhand.Preview(r))
			}
		}
		_, r, _ := whole.Floor(a, b)
		_, s, _ := whole.Quo(a, b)
		if r != "0" && byhand.Negative(r) != byhand.Negative(b) || s != "0" && byhand.Negative(s) != byhand.Negative(a) {
			t.Errorf("%s by %s: remainders %s and %s", byhand.Preview(a), byhand.Preview(b), byhand.Preview(r), byhand.Preview(s))
		}
	})
}

// P1.11

func TestP1_11Order(t *testing.T) {
	triples(23, 199, func(a, b, c string) {
		ab := compare(t, a, b)
		if compare(t, b, a) != -ab || (ab == 0) != (a == b) {
			t.Errorf("Compare(%s, %s) = %d", byhand.Preview(a), byhand.Preview(b), ab)
		}
		if bc := compare(t, b, c); ab <= 0 && bc <= 0 && compare(t, a, c) > min(0, max(ab, bc)) {
			t.Errorf("%s, %s and %s are not in order", byhand.Preview(a), byhand.Preview(b), byhand.Preview(c))
		}
		if compare(t, must(t)(whole.Add(a, c)), must(t)(whole.Add(b, c))) != ab {
			t.Errorf("%s and %s: the order changes with %s added", byhand.Preview(a), byhand.Preview(b), byhand.Preview(c))
		}
		if p := byhand.Amount(c); p != "0" && compare(t, must(t)(whole.Mul(a, p)), must(t)(whole.Mul(b, p))) != ab {
			t.Errorf("%s and %s: the order changes with %s multiplied", byhand.Preview(a), byhand.Preview(b), byhand.Preview(p))
		}
	})
}

// P1.12

func TestP1_12Divisor(t *testing.T) {
	triples(24, 133, func(a, b, c string) {
		// c is a common divisor of both.
		x, y := must(t)(whole.Mul(a, c)), must(t)(whole.Mul(b, c))
		checkGcd(t, x, y)
		g, _, _, _ := whole.Gcd(x, y)
		if c == "0" {
			return
		}
		if _, r, e := whole.Quo(g, c); r != "0" || e != api.OK {
			t.Errorf("%s divides %s and %s, but not %s", byhand.Preview(c), byhand.Preview(x), byhand.Preview(y), byhand.Preview(g))
		}
	})
}

// P1.13

func TestP1_13Powers(t *testing.T) {
	for _, a := range []string{"0", "1", "-1", "2", "-3", "10", "-99999", "123456789123"} {
		for n := range 12 {
			for m := range 12 {
				sum := must(t)(whole.Pow(a, n+m))
				if must(t)(whole.Mul(must(t)(whole.Pow(a, n)), must(t)(whole.Pow(a, m)))) != sum {
					t.Errorf("powers %d and %d of %s", n, m, a)
				}
				for _, by := range []string{"1", "2", "10", "1000000007", "99999999999999999999"} {
					_, r, _ := whole.Floor(sum, by)
					row(t, []string{one(whole.PowMod(a, strconv.Itoa(n+m), by))}, r)
				}
			}
		}
	}
	triples(25, 400, func(a, b, c string) {
		// Powers with exponents of many digits multiply by their sum, too.
		n, m := byhand.Amount(b)[:min(9, len(byhand.Amount(b)))], byhand.Amount(a)[:min(9, len(byhand.Amount(a)))]
		by := must(t)(whole.Add(byhand.Amount(c)[:min(190, len(byhand.Amount(c)))], "1"))
		get := func(n string) string { return must(t)(whole.PowMod(a, n, by)) }
		_, r, _ := whole.Floor(byhand.Mul(get(n), get(m)), by)
		row(t, []string{get(must(t)(whole.Add(n, m)))}, r)
	})
}

// P1.14

func TestP1_14Root(t *testing.T) {
	for _, a := range samples(26, 399) {
		for n := 1; n <= 20; n++ {
			r := must(t)(whole.Root(byhand.Amount(a), n))
			if compare(t, must(t)(whole.Pow(r, n)), byhand.Amount(a)) > 0 {
				t.Errorf("Root(%s, %d) = %s: too large", byhand.Preview(a), n, byhand.Preview(r))
			}
			if s, e := whole.Pow(must(t)(whole.Add(r, "1")), n); e == api.OK && compare(t, s, byhand.Amount(a)) <= 0 {
				t.Errorf("Root(%s, %d) = %s: too small", byhand.Preview(a), n, byhand.Preview(r))
			}
		}
	}
}

// P1.15

func TestP1_15Digits(t *testing.T) {
	for base := 2; base <= 36; base++ {
		for _, a := range samples(byhand.Chance(100+base), 400) {
			s := must(t)(whole.Base(a, base))
			row(t, []string{one(whole.FromBase(s, base)), one(whole.Base(must(t)(whole.FromBase(s, base)), base))}, a, s)
		}
		// Digits that did not come from Base.
		s := "-1"
		for i := range 150 {
			s += strconv.FormatInt(int64(i*i%base), base)
		}
		row(t, []string{one(whole.Base(must(t)(whole.FromBase(s, base)), base))}, s)
	}
}

// P1.16

func TestP1_16Primes(t *testing.T) {
	for n := 1; n <= 1000000; n += 1 + n/100 {
		l, e := whole.Factor(strconv.Itoa(n))
		product := "1"
		for i, p := range l {
			product = must(t)(whole.Mul(product, p))
			if !prime(p) || i > 0 && compare(t, l[i-1], p) > 0 {
				t.Errorf("Factor(%d) = %v", n, l)
			}
		}
		if e != api.OK || product != strconv.Itoa(n) {
			t.Errorf("Factor(%d) = %v, %d", n, l, e)
		}
	}
}

func prime(p string) bool {
	n, _ := strconv.Atoi(p)
	for d := 2; d*d <= n; d++ {
		if n%d == 0 {
			return false
		}
	}
	return n > 1
}
