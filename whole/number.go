package whole

import (
	"cmp"

	"metewand/api"
	"metewand/internal/failure"
)

// sign is true for numbers less than 0.
type sign bool

func (s sign) negative() bool { return bool(s) }

func (s sign) opposite() sign { return !s }

// with returns the sign of the product of numbers of both signs.
func (s sign) with(t sign) sign { return s != t }

// number is a number of any size; 0 is not negative.
type number struct {
	sign
	limbs natural
}

// numberOf returns the number of a valid string.
func numberOf(a string) number {
	minus, digits := signOf(a)
	return signed(minus, naturalOf(digits))
}

func signed(s sign, limbs natural) number {
	return number{s && len(limbs) > 0, limbs}
}

// text throws ErrLarge if the number has too many digits.
func (n number) text() string {
	if n.limbs.digits() > api.Digits {
		failure.Throw(api.ErrLarge)
	}
	if n.negative() {
		return "-" + n.limbs.text()
	}
	return n.limbs.text()
}

// full is the limbs of a number of at most api.Digits digits: all of them have one length, so that == compares them.
type full [(api.Digits + limbDigits - 1) / limbDigits]uint32

func (n number) full() full {
	var f full
	copy(f[:], n.limbs)
	return f
}

// compare compares numbers of at most api.Digits digits.
func (n number) compare(m number) int {
	if n.sign == m.sign && n.full() == m.full() {
		return 0
	}
	if n.less(m) {
		return -1
	}
	return 1
}

func (n number) less(m number) bool {
	if n.negative() != m.negative() {
		return n.negative()
	}
	if n.negative() {
		n, m = m, n
	}
	return n.limbs.compare(m.limbs) < 0
}

func (n number) negated() number {
	return signed(n.opposite(), n.limbs)
}

func (n number) plus(m number) number {
	if n.sign == m.sign {
		return signed(n.sign, n.limbs.plus(m.limbs))
	}
	if n.limbs.compare(m.limbs) < 0 {
		n, m = m, n
	}
	return signed(n.sign, n.limbs.minus(m.limbs))
}

func (n number) minus(m number) number {
	return n.plus(m.negated())
}

func (n number) times(m number) number {
	return signed(n.with(m.sign), multiplied(n.limbs, m.limbs))
}

// cut returns the quotient rounded towards 0, and the remainder.
func (n number) cut(m number) (quotient, remainder number) {
	q, r := n.limbs.over(m.limbs)
	return signed(n.with(m.sign), q), signed(n.sign, r)
}

// floored returns the quotient rounded down, and the remainder.
func (n number) floored(m number) (quotient, remainder number) {
	quotient, remainder = n.cut(m)
	if len(remainder.limbs) > 0 && remainder.sign != m.sign {
		return quotient.minus(number{limbs: natural{1}}), remainder.plus(m)
	}
	return quotient, remainder
}

func compare(a, b string) int {
	if valid(a, b) == short {
		return cmp.Compare(smallOf(a), smallOf(b))
	}
	return numberOf(a).compare(numberOf(b))
}
