package byhand

import (
	"strings"

	"metewand/api"
)

// Reduced returns num/den in lowest terms; den is greater than 0.
func Reduced(num, den string) api.Rat {
	common := Gcd(den, Amount(num))
	p, _ := Divide(Amount(num), common)
	q, _ := Divide(den, common)
	if Negative(num) {
		p = Minus(p)
	}
	return api.Rat{Num: p, Den: q}
}

// Negated returns a with the other sign.
func Negated(a api.Rat) api.Rat {
	return api.Rat{Num: Minus(a.Num), Den: a.Den}
}

// Plus returns the sum of a and b, not in lowest terms.
func Plus(a, b api.Rat) (num, den string) {
	return Add(Mul(a.Num, b.Den), Mul(b.Num, a.Den)), Mul(a.Den, b.Den)
}

// Times returns the product of a and b, not in lowest terms.
func Times(a, b api.Rat) (num, den string) {
	return Mul(a.Num, b.Num), Mul(a.Den, b.Den)
}

// Fits tells whether neither part of a number has too many digits.
func Fits(a api.Rat) bool {
	return len(Amount(a.Num)) <= api.Digits && len(a.Den) <= api.Digits
}

// Limits returns the greatest whole number that layer 1 has, the least one with as many digits, and one with a digit more.
func Limits() (nines, tens, over string) {
	zeros := strings.Repeat("0", api.Digits)
	return strings.Repeat("9", api.Digits), "1" + zeros[1:], "1" + zeros
}
