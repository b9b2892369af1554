// Package exact computes with rational numbers of any size. Layers use it where numbers on the way to a result may have more digits than layers 1 and 2 return; what they take and return is plain data.
//
// Its numbers are binary words, unlike those of layer 1: only what comes in and goes out is read or written as decimal digits.
package exact

import (
	"math"
	"strings"

	"metewand/api"
	"metewand/internal/failure"
)

// Rat is a rational number in lowest terms. The zero value is 0; a number is never changed.
type Rat struct {
	minus bool
	num   natural
	den   natural // none: 1
}

// Of returns the number that a is; a is valid (ratio.Check).
func Of(a api.Rat) Rat {
	digits, minus := strings.CutPrefix(a.Num, "-")
	return made(minus, naturalOf(digits), naturalOf(a.Den))
}

// One returns the number 1.
func One() Rat { return Whole(1) }

// Whole returns the number that n is.
func Whole(n int) Rat {
	size := uint64(n)
	if n < 0 {
		size = -size
	}
	return made(n < 0, natural{size}.trimmed(), nil)
}

// made returns the number whose numerator and denominator have no common divisor.
func made(minus bool, num, den natural) Rat {
	if len(num) == 0 {
		return Rat{}
	}
	return Rat{minus, num, den}
}

// below returns the denominator.
func (a Rat) below() natural {
	if len(a.den) == 0 {
		return natural{1}
	}
	return a.den
}

// mostWords is so many words that longer numbers have surely more than api.Digits digits: a digit is less than 10/3 bits.
const mostWords = (api.Digits*10/3 + 63) / 64

// Plain returns the number as plain data; api.ErrLarge if it has too many digits.
func (a Rat) Plain() (api.Rat, api.Errno) {
	if a.IsZero() {
		return api.Rat{Num: "0", Den: "1"}, api.OK
	}
	if max(len(a.num), len(a.den)) > mostWords {
		return api.Rat{}, api.ErrLarge
	}
	num, den := a.num.text(), a.below().text()
	if max(len(num), len(den)) > api.Digits {
		return api.Rat{}, api.ErrLarge
	}
	if a.minus {
		num = "-" + num
	}
	return api.Rat{Num: num, Den: den}, api.OK
}

// Returned returns the number as plain data; it throws api.ErrLarge if it has too many digits.
func (a Rat) Returned() api.Rat {
	plain, e := a.Plain()
	failure.Check(e)
	return plain
}

// Text returns the number as a text, however many digits it has. Equal numbers have equal texts.
func (a Rat) Text() string {
	text := a.num.text()
	if a.minus {
		text = "-" + text
	}
	if below := a.below(); !below.isOne() {
		text += "/" + below.text()
	}
	return text
}

// IsZero tells whether a is 0.
func (a Rat) IsZero() bool { return len(a.num) == 0 }

// Compare returns -1 if a is less than b, 0 if they are equal, and 1 if a is greater.
func (a Rat) Compare(b Rat) int {
	order := a.num.times(b.below()).compare(b.num.times(a.below()))
	switch {
	case a.minus && b.minus:
		return -order
	case a.minus:
		return -1
	case b.minus:
		return 1
	}
	return order
}

// Negated returns a with the other sign.
func (a Rat) Negated() Rat { return made(!a.minus, a.num, a.den) }

// Amount returns a without a sign.
func (a Rat) Amount() Rat { return made(false, a.num, a.den) }

// Plus returns the sum of a and b. All that it can have in common with its denominator is in the common divisor of both denominators.
func (a Rat) Plus(b Rat) Rat {
	common := a.below().gcd(b.below())
	x, y := a.below().divided(common), b.below().divided(common)
	minus, num := signedSum(a.minus, a.num.times(y), b.minus, b.num.times(x))
	spare := num.gcd(common)
	return made(minus, num.divided(spare), x.times(b.below().divided(spare)))
}

// signedSum returns the sum of two numbers, the signs of which are given.
func signedSum(minusX bool, x natural, minusY bool, y natural) (minus bool, sum natural) {
	switch {
	case minusX == minusY:
		return minusX, x.plus(y)
	case x.compare(y) < 0:
		return minusY, y.minus(x)
	}
	return minusX, x.minus(y)
}

// Minus returns a less b.
func (a Rat) Minus(b Rat) Rat { return a.Plus(b.Negated()) }

// Times returns the product of a and b.
func (a Rat) Times(b Rat) Rat {
	if a.IsZero() || b.IsZero() {
		return Rat{}
	}
	g, h := a.num.gcd(b.below()), b.num.gcd(a.below())
	num := a.num.divided(g).times(b.num.divided(h))
	den := a.below().divided(h).times(b.below().divided(g))
	return made(a.minus != b.minus, num, den)
}

// Over returns a divided by b, which is not 0.
func (a Rat) Over(b Rat) Rat {
	return a.Times(Rat{b.minus, b.below(), b.num})
}

// Per returns how many times b, which is not 0, is in a: the greatest whole number that is not greater than a divided by b.
func (a Rat) Per(b Rat) Rat {
	quotient, rest := a.num.times(b.below()).over(b.num.times(a.below()))
	minus := a.minus != b.minus
	if minus && len(rest) > 0 {
		quotient = quotient.plus(natural{1})
	}
	return made(minus, quotient, nil)
}

// Root returns the greatest whole number whose square is not greater than a, which is not less than 0.
func (a Rat) Root() Rat {
	floor, _ := a.num.over(a.below())
	return made(false, floor.root(), nil)
}

// Low returns the last 64 bits of a, which is whole: the word that differs from it by a multiple of 2^64.
func (a Rat) Low() uint64 {
	word := a.num.word(0)
	if a.minus {
		return -word
	}
	return word
}

// Int returns the int that is nearest to a, which is whole.
func (a Rat) Int() int {
	switch fits := len(a.num) < 2 && a.num.word(0) <= math.MaxInt; {
	case fits:
		return int(a.Low())
	case a.minus:
		return math.MinInt
	}
	return math.MaxInt
}
