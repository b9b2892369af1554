package whole

import (
	"metewand/api"
	"metewand/internal/failure"
)

func factors(a string) []string {
	widest := valid(a)
	minus, _ := signOf(a)
	if minus.negative() || a == "0" {
		failure.Throw(api.ErrValue)
	}
	if widest == long || smallOf(a) > api.WholeFactor {
		failure.Throw(api.ErrLarge)
	}
	return smallOf(a).primes()
}

// primes returns the primes whose product is s, ascending.
func (s small) primes() []string {
	var found []string
	for prime := small(2); s > 1; s /= prime {
		prime = least(prime, func(d small) bool { return s%d == 0 || d*d > s })
		if s%prime != 0 {
			prime = s // it has no divisor up to its root
		}
		found = append(found, prime.text())
	}
	return found
}
