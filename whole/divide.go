package whole

import (
	"metewand/api"
	"metewand/internal/failure"
)

// over returns the quotient, rounded down, and the remainder; y is not 0.
func (x natural) over(y natural) (quotient, remainder natural) {
	if x.compare(y) < 0 {
		return nil, x
	}
	if len(y) == 1 {
		quotient = x.copied(len(x))
		rest := quotient.shrink(uint64(y[0]))
		return quotient.trimmed(), naturalFrom(rest)
	}
	return x.longDivision(y)
}

// longDivision divides as on paper, limb by limb; y has two limbs or more. Both numbers are scaled first, so that the first limb of y is at least half of limbBase: then a guess from two limbs is too large by 2 at most, and seldom by 1 after a look at a third one.
func (x natural) longDivision(y natural) (quotient, remainder natural) {
	scale := limbBase / (uint64(y[len(y)-1]) + 1)
	rest, divisor := x.copied(len(x)+1), y.copied(len(y))
	rest.scale(scale, 0)
	divisor.scale(scale, 0)
	quotient = make(natural, len(x)-len(y)+1)
places:
	for place := len(quotient) - 1; place >= 0; place-- {
		window := rest[place : place+len(y)+1]
		guess := window.guess(divisor)
		if guess == 0 {
			continue places
		}
		quotient[place] = uint32(guess)
		if window.loseMany(divisor, guess) {
			continue places
		}
		quotient[place]--
		window.giveBack(divisor)
	}
	rest.shrink(scale)
	return quotient.trimmed(), rest.trimmed()
}

// guess returns how many times the divisor is in the window, which has a limb more, or 1 more than this.
func (window natural) guess(divisor natural) uint64 {
	top := len(divisor)
	first, second := uint64(divisor[top-1]), uint64(divisor[top-2])
	lead := uint64(window[top])*limbBase + uint64(window[top-1])
	guess := min(lead/first, limbBase-1)
	left := lead - guess*first
	for left < limbBase && guess*second > left*limbBase+uint64(window[top-2]) {
		guess--
		left += first
	}
	return guess
}

// loseMany subtracts the divisor so many times from the window, and tells whether it was in it as many times; if not, the window lacks a limb in front.
func (window natural) loseMany(divisor natural, times uint64) bool {
	borrow := uint64(0)
	for i, limb := range divisor {
		due := uint64(limb)*times + borrow
		borrow = due / limbBase
		low := uint32(due % limbBase)
		if window[i] < low {
			window[i] += limbBase
			borrow++
		}
		window[i] -= low
	}
	top := len(divisor)
	enough := uint64(window[top]) >= borrow
	window[top] = 0
	return enough
}

// giveBack adds the divisor to a window that lacks a limb in front, which the carry settles.
func (window natural) giveBack(divisor natural) {
	carry := uint32(0)
	for i, limb := range divisor {
		t := window[i] + limb + carry
		carry = t / limbBase
		window[i] = t % limbBase
	}
}

// divided returns the quotient and the remainder of one of two laws of rounding, which is given for both kinds of numbers.
func divided(a, b string, ofSmall func(s, t small) (q, r small), ofLong func(n, m number) (q, r number)) [2]string {
	widest := valid(a, b)
	if b == "0" {
		failure.Throw(api.ErrZero)
	}
	if widest == short {
		q, r := ofSmall(smallOf(a), smallOf(b))
		return [2]string{q.text(), r.text()}
	}
	q, r := ofLong(numberOf(a), numberOf(b))
	return [2]string{q.text(), r.text()}
}
