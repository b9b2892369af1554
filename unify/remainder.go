package unify

import (
	"iter"
	"math/bits"
	"strings"

	"metewand/api"
)

// prime is a prime number that is greater than leastPrime, and less than 2^63.
type prime uint64

// A product of primes has more digits than primeDigits for each.
const (
	leastPrime  = 1_000_000_000_000_000_000
	primeDigits = 18
)

// primes goes through primes, the greatest one first.
func primes() iter.Seq[prime] {
	return func(yield func(prime) bool) {
		for n := uint64(1<<63 - 1); n > leastPrime; n -= 2 {
			if isPrime(n) && !yield(prime(n)) {
				return
			}
		}
	}
}

// isPrime is for odd numbers that are greater than 37. No other number below 2^81 passes with all of these bases.
func isPrime(n uint64) bool {
	for _, base := range [...]uint64{2, 3, 5, 7, 11, 13, 17, 19, 23, 29, 31, 37} {
		if !passes(n, base) {
			return false
		}
	}
	return true
}

// passes tells whether the powers of a base are as if n were prime (the test of Miller and Rabin): of those that are squared to become the power n-1, the first one is 1, or one is -1.
func passes(n, base uint64) bool {
	squares := bits.TrailingZeros64(n - 1)
	x := remainder{base, n}.power((n - 1) >> squares)
	if x.value == 1 {
		return true
	}
	for range squares {
		if x.value == n-1 {
			return true
		}
		x = x.Times(x)
	}
	return false
}

// remainder is what remains of a number on division by a prime.
type remainder struct{ value, prime uint64 }

func (a remainder) IsZero() bool { return a.value == 0 }

// Minus returns a less b.
func (a remainder) Minus(b remainder) remainder {
	value, borrow := bits.Sub64(a.value, b.value, 0)
	return remainder{value + borrow*a.prime, a.prime}
}

// Times returns the product of a and b.
func (a remainder) Times(b remainder) remainder {
	high, low := bits.Mul64(a.value, b.value)
	_, value := bits.Div64(high, low, a.prime)
	return remainder{value, a.prime}
}

// Over returns a divided by b, which is not 0.
func (a remainder) Over(b remainder) remainder {
	return a.Times(b.inverse())
}

// inverse returns the number whose product with a is 1, by Euclid's algorithm: x and y are always a times u and v, but for multiples of the prime.
func (a remainder) inverse() remainder {
	x, u := a.prime, int64(0)
	y, v := a.value, int64(1)
	for y > 0 {
		quotient := x / y
		x, y = y, x%y
		u, v = v, u-int64(quotient)*v
	}
	if u < 0 {
		return remainder{a.prime - uint64(-u), a.prime}
	}
	return remainder{uint64(u), a.prime}
}

func (a remainder) power(n uint64) remainder {
	power := remainder{1, a.prime}
	for ; n > 0; n /= 2 {
		if n%2 == 1 {
			power = power.Times(a)
		}
		a = a.Times(a)
	}
	return power
}

// small returns the remainder of a number that is less than the prime.
func (p prime) small(value uint64) remainder { return remainder{value, uint64(p)} }

// whole returns the remainder of a whole number.
func (p prime) whole(text string) remainder {
	digits, minus := strings.CutPrefix(text, "-")
	// The number with the other sign: there is no sum of remainders.
	negated := p.small(0)
	for i := range len(digits) {
		negated = negated.Times(p.small(10)).Minus(p.small(uint64(digits[i] - '0')))
	}
	if minus {
		return negated
	}
	return p.small(0).Minus(negated)
}

// remainder returns that of a number, the denominator of which the prime does not divide.
func (p prime) remainder(a api.Rat) remainder {
	return p.whole(a.Num).Over(p.whole(a.Den))
}

// dividesBelow tells whether the prime divides the denominator of a number.
func (p prime) dividesBelow(a api.Rat) bool { return p.whole(a.Den).IsZero() }
