package ratio

import (
	"strconv"

	"metewand/api"
	"metewand/internal/failure"
)

// nearest keeps the nearest of all that it was offered.
type nearest[T any] struct {
	kept   T
	some   bool
	nearer func(x, y T) bool
}

func (k *nearest[T]) offer(x T) {
	if !k.some || k.nearer(x, k.kept) {
		k.kept, k.some = x, true
	}
}

// approach is a fraction, and by how much it misses a number: the distance, times den and the number's denominator.
type approach struct {
	num  string
	den  int
	miss string
}

// plus returns the fraction between x, and as many of y as times says, which lie on the other side of the number.
func (x approach) plus(times int, y approach) approach {
	many := strconv.Itoa(times)
	return approach{add(x.num, mul(many, y.num)), x.den + times*y.den, sub(x.miss, mul(many, y.miss))}
}

// distance returns how far away the fraction is, times the number's denominator.
func (x approach) distance() number {
	return of(x.miss, strconv.Itoa(x.den))
}

// nearer tells whether x is nearer than y, or as near, and simpler.
func (x approach) nearer(y approach) bool {
	c := x.distance().compare(y.distance())
	switch {
	case c != 0:
		return c < 0
	case x.den != y.den:
		return x.den < y.den
	}
	return order(x.num, y.num) < 0
}

func (n number) near(most int) number {
	switch {
	case most < 1 || most > api.RatioDen:
		failure.Throw(api.ErrValue)
	case order(n.Den, strconv.Itoa(most)) <= 0:
		return n
	case n.negative():
		return n.negated().near(most).negated()
	}
	best := nearest[approach]{nearer: approach.nearer}
	for _, x := range n.neighbours(most) {
		best.offer(x)
	}
	return of(best.kept.num, strconv.Itoa(best.kept.den))
}

// neighbours returns the next fractions on both sides of n with denominators of at most so many; n has a greater one, and is not less than 0. Each convergent of n is the last one but one, plus the last one, as many times as the next term says. Where these are too many, as many as there may be lead to the next fraction on the other side.
func (n number) neighbours(most int) [2]approach {
	x := n.mixed()
	last, next := approach{"1", 0, n.Den}, approach{x.floor, 1, x.Num}
	for {
		term, _ := floor(last.miss, next.miss)
		room := (most - last.den) / next.den
		if order(term, strconv.Itoa(room)) > 0 {
			return [2]approach{last.plus(room, next), next}
		}
		times, _ := strconv.Atoi(term)
		last, next = next, last.plus(times, next)
	}
}
