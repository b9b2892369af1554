// Package byhand computes with whole numbers of any length, one digit after the other, as on paper. It is there for the tests, which compare the results of layers with its own: it is slow and plain, and calls no layer.
package byhand

import "strings"

// Minus returns a with the other sign.
func Minus(a string) string {
	if rest, cut := strings.CutPrefix(a, "-"); cut || a == "0" {
		return rest
	}
	return "-" + a
}

// Amount returns a without a sign.
func Amount(a string) string { return strings.TrimPrefix(a, "-") }

// Negative tells whether a is less than 0.
func Negative(a string) bool { return a[0] == '-' }

// Preview shortens a number for a message.
func Preview(a string) string {
	if len(a) > 40 {
		return a[:20] + ".." + a[len(a)-18:]
	}
	return a
}

// digitsOf returns the digits of an amount, the last one first.
func digitsOf(a string) []int {
	var digits []int
	for i := len(a) - 1; i >= 0; i-- {
		digits = append(digits, int(a[i]-'0'))
	}
	return digits
}

func signed(minus bool, digits []int) string {
	var text strings.Builder
	for i := len(digits) - 1; i >= 0; i-- {
		if digits[i] != 0 || text.Len() > 0 || i == 0 {
			text.WriteByte(byte('0' + digits[i]))
		}
	}
	if minus && text.String() != "0" {
		return "-" + text.String()
	}
	return text.String()
}

// Compare returns -1, 0 or 1 if a is less than b, equal to it, or greater.
func Compare(a, b string) int {
	if Negative(a) != Negative(b) {
		if Negative(a) {
			return -1
		}
		return 1
	}
	order := strings.Compare(Amount(a), Amount(b))
	if len(a) != len(b) {
		order = 1
		if len(a) < len(b) {
			order = -1
		}
	}
	if Negative(a) {
		return -order
	}
	return order
}

// Add returns the sum of a and b.
func Add(a, b string) string {
	if Negative(a) && Negative(b) {
		return "-" + Add(Amount(a), Amount(b))
	}
	if Compare(Amount(a), Amount(b)) < 0 {
		a, b = b, a
	}
	x, y := digitsOf(Amount(a)), digitsOf(Amount(b))
	factor := 1
	if Negative(a) != Negative(b) {
		factor = -1
	}
	x = append(x, 0)
	carry := 0
	for i := range x {
		sum := x[i] + carry
		if i < len(y) {
			sum += factor * y[i]
		}
		carry = 0
		if sum < 0 {
			sum, carry = sum+10, -1
		} else if sum > 9 {
			sum, carry = sum-10, 1
		}
		x[i] = sum
	}
	return signed(Negative(a), x)
}

// Mul returns the product of a and b.
func Mul(a, b string) string {
	x, y := digitsOf(Amount(a)), digitsOf(Amount(b))
	z := make([]int, len(x)+len(y))
	for i := range x {
		for j := range y {
			z[i+j] += x[i] * y[j]
		}
	}
	for i := range len(z) - 1 {
		z[i+1] += z[i] / 10
		z[i] %= 10
	}
	return signed(Negative(a) != Negative(b), z)
}

// Divide returns a/b, rounded down, and what remains; a is not less than 0, and b is greater than 0.
func Divide(a, b string) (quotient, rest string) {
	x := digitsOf(a)
	digits := divide(x, digitsOf(b))
	return signed(false, digits), signed(false, x)
}

// divide returns the digits of x/y, and leaves what remains in x.
func divide(x, y []int) []int {
	quotient := make([]int, len(x)+1)
	for place := len(x) - len(y); place >= 0; place-- {
		for !less(x[place:], y) {
			for i, digit := range y {
				x[place+i] -= digit
				if x[place+i] < 0 {
					x[place+i] += 10
					x[place+i+1]--
				}
			}
			quotient[place]++
		}
	}
	return quotient
}

// less compares x with y, which has no more digits.
func less(x, y []int) bool {
	for i := len(x) - 1; i >= 0; i-- {
		digit := 0
		if i < len(y) {
			digit = y[i]
		}
		if x[i] != digit {
			return x[i] < digit
		}
	}
	return false
}

// Gcd returns the greatest common divisor of two numbers that are not less than 0.
func Gcd(a, b string) string {
	x, y := trimmed(digitsOf(a)), trimmed(digitsOf(b))
	for len(y) > 0 {
		divide(x, y)
		x, y = y, trimmed(x)
	}
	return signed(false, append(x, 0))
}

// trimmed cuts the zeros in front off.
func trimmed(x []int) []int {
	for len(x) > 0 && x[len(x)-1] == 0 {
		x = x[:len(x)-1]
	}
	return x
}
