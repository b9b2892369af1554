package byhand

import (
	"cmp"
	"strconv"
	"testing"
)

// TestByHand compares with the machine's numbers.
func TestByHand(t *testing.T) {
	text := strconv.Itoa
	seed := Chance(1)
	for range 20000 {
		a, _ := strconv.Atoi(seed.Number(1 + seed.Below(8)))
		b, _ := strconv.Atoi(seed.Number(1 + seed.Below(8)))
		if s, p, c := Add(text(a), text(b)), Mul(text(a), text(b)), Compare(text(a), text(b)); s != text(a+b) || p != text(a*b) || c != cmp.Compare(a, b) {
			t.Fatal(a, b, s, p, c)
		}
		a, b = max(a, -a), max(b, -b)
		g := Gcd(text(a), text(b))
		if n, _ := strconv.Atoi(g); a+b > 0 && (a%n != 0 || b%n != 0 || Gcd(text(a/n), text(b/n)) != "1") {
			t.Fatal(a, b, g)
		}
		if b == 0 {
			continue
		}
		if x := Reduced(Minus(text(a)), text(b)); Mul(x.Num, text(b)) != Mul(x.Den, text(-a)) || Gcd(Amount(x.Num), x.Den) != "1" {
			t.Fatal(a, b, x)
		}
		if q, r := Divide(text(a), text(b)); q != text(a/b) || r != text(a%b) {
			t.Fatal(a, b, q, r)
		}
	}
}

func TestLimits(t *testing.T) {
	nines, tens, over := Limits()
	if Add(nines, "1") != over || Mul(tens, "10") != over || len(nines) != 400 || len(over) != 401 {
		t.Error(nines, tens, over)
	}
}
