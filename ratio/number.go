package ratio

import (
	"metewand/api"
	"metewand/internal/failure"
	"metewand/whole"
)

// number is a rational number at work. Its denominator is not less than 0; where it is 0, the number is greater than all others.
type number struct{ api.Rat }

func of(num, den string) number {
	return number{api.Rat{Num: num, Den: den}}
}

// valid throws the error of a; otherwise a is in lowest terms.
func valid(a api.Rat) number {
	num, den := whole.Check(a.Num), whole.Check(a.Den)
	switch {
	case num == api.ErrForm, den == api.ErrForm, negative(a.Den), a.Den == "0":
		failure.Throw(api.ErrForm)
	case num != api.OK, den != api.OK:
		failure.Throw(api.ErrLarge)
	case a.Den != "1" && gcd(a.Num, a.Den) != "1":
		failure.Throw(api.ErrForm)
	}
	return number{a}
}

// both throws the error of the first number that has one.
func both(a, b api.Rat) (n, m number) {
	n = valid(a)
	return n, valid(b)
}

// quotient returns p/q.
func quotient(p, q string) number {
	for _, a := range [...]string{p, q} {
		must(a, whole.Check(a))
	}
	switch {
	case q == "0":
		failure.Throw(api.ErrZero)
	case negative(q):
		p, q = negated(p), negated(q)
	}
	return lowest(p, q)
}

// lowest returns num/den in lowest terms; den is greater than 0.
func lowest(num, den string) number {
	common := gcd(num, den)
	return sideBySide(
		of(num, den).short(),
		func() string { return divided(num, common) },
		func() string { return divided(den, common) },
	)
}

// short tells whether sums of two products with such numbers are never too long.
func (n number) short() bool {
	return max(len(n.Num), len(n.Den)) < api.Digits/2
}

func (n number) negative() bool { return negative(n.Num) }

func (n number) isZero() bool { return n.Num == "0" }

func (n number) negated() number {
	return of(negated(n.Num), n.Den)
}

func (n number) amount() number {
	if n.negative() {
		return n.negated()
	}
	return n
}

// inverse returns 1/n.
func (n number) inverse() number {
	if n.negative() {
		return of(negated(n.Den), negated(n.Num))
	}
	return of(n.Den, n.Num)
}

// mixed is a whole number, and a number from 0 to 1 that is added to it.
type mixed struct {
	floor string
	number
}

// mixed returns n with a part that is less than 1.
func (n number) mixed() mixed {
	quotient, rest := floor(n.Num, n.Den)
	return mixed{quotient, of(rest, n.Den)}
}

// improper returns x as one number. Both numbers that are added have the same sign, so that none is too long unless the sum is.
func (x mixed) improper() number {
	if negative(x.floor) {
		return of(sub(mul(add(x.floor, "1"), x.Den), sub(x.Den, x.Num)), x.Den)
	}
	return of(add(mul(x.floor, x.Den), x.Num), x.Den)
}
