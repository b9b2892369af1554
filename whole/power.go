package whole

import (
	"metewand/api"
	"metewand/internal/failure"
)

func pow(a string, n int) string {
	valid(a)
	if n < 0 || n > api.WholePower {
		failure.Throw(api.ErrValue)
	}
	base := numberOf(a)
	odd := sign(n%2 == 1)
	return signed(base.sign && odd, base.limbs.power(n, api.Digits)).text()
}

func powMod(a, n, m string) string {
	valid(a, n, m)
	minus, exponent := signOf(n)
	modulus := numberOf(m)
	if minus.negative() || modulus.negative() || len(modulus.limbs) == 0 {
		failure.Throw(api.ErrValue)
	}
	_, base := numberOf(a).floored(modulus)
	return number{limbs: base.limbs.powerMod(exponent, modulus.limbs)}.text()
}

// powerMod goes along the digits of the exponent: the power 10 of what it has, times the power of x that the digit says.
func (x natural) powerMod(exponent string, modulus natural) natural {
	product := func(y, z natural) natural {
		_, rest := multiplied(y, z).over(modulus)
		return rest
	}
	_, one := natural{1}.over(modulus)
	powers := [10]natural{one}
	for i := range 9 {
		powers[i+1] = product(powers[i], x)
	}
	result := one
	for _, r := range exponent {
		square := product(result, result)
		fourth := product(square, square)
		result = product(product(fourth, fourth), square)
		result = product(result, powers[r-'0'])
	}
	return result
}

func root(a string, n int) string {
	valid(a)
	value := numberOf(a)
	if n < 1 || n > api.WholeRoot || value.negative() {
		failure.Throw(api.ErrValue)
	}
	return number{limbs: value.limbs.root(n)}.text()
}

// root goes down from a number that is greater than the root by Newton's steps, rounded down. None of them leads below the root, and each one that is above it leads farther down.
func (x natural) root(n int) natural {
	if len(x) == 0 {
		return nil
	}
	guess := powerOfTen((x.digits() + n - 1) / n)
nearer:
	next, _ := x.over(guess.power(n-1, 2*api.Digits))
	next = next.plus(multiplied(guess, naturalFrom(uint64(n-1))))
	next, _ = next.over(naturalFrom(uint64(n)))
	if next.compare(guess) < 0 {
		guess = next
		goto nearer
	}
	return guess
}
