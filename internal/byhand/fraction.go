package byhand

import (
	"strings"

	"metewand/api"
)

// Reduced returns num/den in lowest terms; den is greater than 0.
func Reduced(num, den string) api.Rat {
	common := Gcd(den, Amount(num))
	p, _ := Divide(Amount(num), common)
	q, _ := Divide(den, common)
	if Negative(num) {
		p = Minus(p)
	}
	return api.Rat{Num: p, Den: q}
}

// Negated returns a with the other sign.
func Negated(a api.Rat) api.Rat {
	return api.Rat{Num: Minus(a.Num), Den: a.Den}
}

// Plus returns the sum of a and b, not in lowest terms.
func Plus(a, b api.Rat) (num, den string) {
	return Add(Mul(a.Num, b.Den), Mul(b.Num, a.Den)), Mul(a.Den, b.Den)
}

// Times returns the product of a and b, not in lowest terms.
func Times(a, b api.Rat) (num, den string) {
	return Mul(a.Num, b.Num), Mul(a.Den, b.Den)
}

// Sum returns the sum of a and b.
func Sum(a, b api.Rat) api.Rat { return Reduced(Plus(a, b)) }

// Difference returns a less b.
func Difference(a, b api.Rat) api.Rat { return Sum(a, Negated(b)) }

// Product returns the product of a and b.
func Product(a, b api.Rat) api.Rat { return Reduced(Times(a, b)) }

// Quotient returns a divided by b, which is not 0.
func Quotient(a, b api.Rat) api.Rat {
	if Negative(b.Num) {
		a, b = Negated(a), Negated(b)
	}
	return Reduced(Mul(a.Num, b.Den), Mul(a.Den, b.Num))
}

// Order returns -1, 0 or 1 if a is less than b, equal to it, or greater: it compares the products across.
func Order(a, b api.Rat) int {
	return Compare(Mul(a.Num, b.Den), Mul(b.Num, a.Den))
}

// PreviewRat shortens a number for a message.
func PreviewRat(a api.Rat) string { return Preview(a.Num) + "/" + Preview(a.Den) }

// Fits tells whether neither part of a number has too many digits.
func Fits(a api.Rat) bool {
	return len(Amount(a.Num)) <= api.Digits && len(a.Den) <= api.Digits
}

// Limits returns the greatest whole number that layer 1 has, the least one with as many digits, and one with a digit more.
func Limits() (nines, tens, over string) {
	zeros := strings.Repeat("0", api.Digits)
	return strings.Repeat("9", api.Digits), "1" + zeros[1:], "1" + zeros
}
