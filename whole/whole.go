// Package whole is layer 1: it computes with whole numbers of up to api.Digits digits, which are strings of decimal digits (shared/doc/01-whole.md).
package whole

import (
	"metewand/api"
	"metewand/internal/failure"
)

// Check returns ErrForm unless a is a whole number, and ErrLarge if it has too many digits.
func Check(a string) api.Errno {
	_, e := failure.Guarded(func() kind { return valid(a) })
	return e
}

// Compare returns -1 if a is less than b, 0 if they are equal, and 1 if a is greater.
func Compare(a, b string) (int, api.Errno) {
	return failure.Guarded(func() int { return compare(a, b) })
}

// Add returns the sum of a and b.
func Add(a, b string) (string, api.Errno) {
	return failure.Guarded(func() string { return calculate(sum{}, a, b) })
}

// Sub returns a less b.
func Sub(a, b string) (string, api.Errno) {
	return failure.Guarded(func() string { return calculate(difference{}, a, b) })
}

// Mul returns the product of a and b.
func Mul(a, b string) (string, api.Errno) {
	return failure.Guarded(func() string { return calculate(product{}, a, b) })
}

// Floor returns the greatest whole number that is not more than a/b, and what remains of a; ErrZero if b is 0.
func Floor(a, b string) (quotient, remainder string, e api.Errno) {
	parts, e := failure.Guarded(func() [2]string { return divided(a, b, small.floored, number.floored) })
	return parts[0], parts[1], e
}

// Quo returns a/b rounded towards 0, and what remains of a; ErrZero if b is 0.
func Quo(a, b string) (quotient, remainder string, e api.Errno) {
	parts, e := failure.Guarded(func() [2]string { return divided(a, b, small.cut, number.cut) })
	return parts[0], parts[1], e
}

// Gcd returns the greatest common divisor g of a and b, and x and y with a x + b y = g, x the least that is not less than 0 if b is not 0.
func Gcd(a, b string) (g, x, y string, e api.Errno) {
	parts, e := failure.Guarded(func() [3]string { return commonDivisor(a, b) })
	return parts[0], parts[1], parts[2], e
}

// Pow returns a to the power n, which is from 0 to api.WholePower (ErrValue).
func Pow(a string, n int) (string, api.Errno) {
	return failure.Guarded(func() string { return pow(a, n) })
}

// PowMod returns the remainder, not less than 0, of a to the power n divided by m; ErrValue if n is less than 0, or m less than 1.
func PowMod(a, n, m string) (string, api.Errno) {
	return failure.Guarded(func() string { return powMod(a, n, m) })
}

// Root returns the greatest whole number whose power n is not more than a; ErrValue unless n is from 1 to api.WholeRoot, and a not less than 0.
func Root(a string, n int) (string, api.Errno) {
	return failure.Guarded(func() string { return root(a, n) })
}

// Base returns the digits of a in the base, which is from 2 to 36 (ErrValue).
func Base(a string, base int) (string, api.Errno) {
	return failure.Guarded(func() string { return toBase(a, base) })
}

// FromBase returns the number whose digits in the base are s; ErrValue unless the base is from 2 to 36, ErrForm unless s is such digits.
func FromBase(s string, base int) (string, api.Errno) {
	return failure.Guarded(func() string { return fromBase(s, base) })
}

// Factor returns the primes whose product is a, ascending; ErrValue if a is less than 1, ErrLarge if it is greater than api.WholeFactor.
func Factor(a string) ([]string, api.Errno) {
	return failure.Guarded(func() []string { return factors(a) })
}
