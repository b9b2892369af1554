package ratio

import (
	"metewand/api"
	"metewand/internal/failure"
	"metewand/whole"
)

// The functions below are those of layer 1, which throw their error. They get valid numbers, so that this is ErrLarge.

func must(a string, e api.Errno) string {
	failure.Check(e)
	return a
}

func add(a, b string) string { return must(whole.Add(a, b)) }

func sub(a, b string) string { return must(whole.Sub(a, b)) }

func mul(a, b string) string { return must(whole.Mul(a, b)) }

func pow(a string, n int) string { return must(whole.Pow(a, n)) }

func gcd(a, b string) string {
	g, _, _, e := whole.Gcd(a, b)
	return must(g, e)
}

// floor returns a/b rounded down, and what remains of a.
func floor(a, b string) (quotient, rest string) {
	quotient, rest, e := whole.Floor(a, b)
	return must(quotient, e), rest
}

// divided returns a/b, where b divides a. (Most common divisors are 1.)
func divided(a, b string) string {
	if b == "1" {
		return a
	}
	quotient, _ := floor(a, b)
	return quotient
}

// order returns -1, 0 or 1 if a is less than b, equal to it, or greater.
func order(a, b string) int {
	n, e := whole.Compare(a, b)
	failure.Check(e)
	return n
}

func negative(a string) bool { return a[0] == '-' }

func negated(a string) string {
	switch {
	case negative(a):
		return a[1:]
	case a == "0":
		return a
	}
	return "-" + a
}
