package byhand

import (
	"cmp"
	"strconv"
	"testing"

	"metewand/api"
)

// TestByHand compares with the machine's numbers.
func TestByHand(t *testing.T) {
	text := strconv.Itoa
	seed := Chance(1)
	for range 20000 {
		a, _ := strconv.Atoi(seed.Number(1 + seed.Below(8)))
		b, _ := strconv.Atoi(seed.Number(1 + seed.Below(8)))
		if s, p, c := Add(text(a), text(b)), Mul(text(a), text(b)), Compare(text(a), text(b)); s != text(a+b) || p != text(a*b) || c != cmp.Compare(a, b) {
			t.Fatal(a, b, s, p, c)
		}
		a, b = max(a, -a), max(b, -b)
		g := Gcd(text(a), text(b))
		if n, _ := strconv.Atoi(g); a+b > 0 && (a%n != 0 || b%n != 0 || Gcd(text(a/n), text(b/n)) != "1") {
			t.Fatal(a, b, g)
		}
		if b == 0 {
			continue
		}
		if x := Reduced(Minus(text(a)), text(b)); Mul(x.Num, text(b)) != Mul(x.Den, text(-a)) || Gcd(Amount(x.Num), x.Den) != "1" {
			t.Fatal(a, b, x)
		}
		if q, r := Divide(text(a), text(b)); q != text(a/b) || r != text(a%b) {
			t.Fatal(a, b, q, r)
		}
	}
}

// TestFractions compares with the machine's numbers, across.
func TestFractions(t *testing.T) {
	seed := Chance(2)
	number := func(n, d int) api.Rat { return Reduced(strconv.Itoa(n), strconv.Itoa(d)) }
	for range 3000 {
		n, d, m, e := seed.Below(61)-30, 1+seed.Below(12), seed.Below(61)-30, 1+seed.Below(12)
		a, b := number(n, d), number(m, e)
		if Sum(a, b) != number(n*e+m*d, d*e) || Difference(a, b) != number(n*e-m*d, d*e) || Product(a, b) != number(n*m, d*e) || Order(a, b) != cmp.Compare(n*e, m*d) {
			t.Fatal(a, b)
		}
		if m < 0 {
			n, m = -n, -m
		}
		if m != 0 && Quotient(a, b) != number(n*e, d*m) {
			t.Fatal(a, b)
		}
	}
}

func TestLimits(t *testing.T) {
	nines, tens, over := Limits()
	if Add(nines, "1") != over || Mul(tens, "10") != over || len(nines) != 400 || len(over) != 401 {
		t.Error(nines, tens, over)
	}
}
