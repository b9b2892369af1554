package whole

import "strconv"

// small is a number of at most shortDigits digits, or a sum, quotient or remainder of such numbers. Most numbers are small, and need no limbs.
type small int64

// smallOf returns the number of a valid string that is short.
func smallOf(a string) small {
	minus, digits := signOf(a)
	n := small(0)
	for _, r := range digits {
		n = n*10 + small(r-'0')
	}
	if minus.negative() {
		return -n
	}
	return n
}

func (s small) text() string {
	return strconv.FormatInt(int64(s), 10)
}

// The results of plus, minus and times are false if the number is too large for a small.

func (s small) plus(t small) (small, bool) { return s + t, true }

func (s small) minus(t small) (small, bool) { return s - t, true }

func (s small) times(t small) (small, bool) {
	p := s * t
	return p, s == 0 || p/s == t
}

// cut returns the quotient rounded towards 0, and the remainder.
func (s small) cut(t small) (quotient, remainder small) {
	return s / t, s % t
}

// floored returns the quotient rounded down, and the remainder.
func (s small) floored(t small) (quotient, remainder small) {
	quotient, remainder = s.cut(t)
	if remainder != 0 && (remainder < 0) != (t < 0) {
		return quotient - 1, remainder + t
	}
	return quotient, remainder
}

// least returns the least number from a given one on that fits.
func least[T ~int | ~int64](from T, fits func(T) bool) T {
	for !fits(from) {
		from++
	}
	return from
}
