package enclose

import (
	"slices"

	"metewand/api"
	"metewand/internal/exact"
	"metewand/internal/failure"
)

// span is the numbers between two of any size: ends on the way to a result may have more digits than those that are returned.
type span struct{ lo, hi exact.Rat }

func point(x exact.Rat) span { return span{x, x} }

// ordered are numbers that can be compared.
type ordered[T any] interface{ Compare(T) int }

func least[T ordered[T]](first T, others ...T) T {
	for _, x := range others {
		if x.Compare(first) < 0 {
			first = x
		}
	}
	return first
}

func greatest[T ordered[T]](first T, others ...T) T {
	for _, x := range others {
		if x.Compare(first) > 0 {
			first = x
		}
	}
	return first
}

// around returns the narrowest span with all of some numbers.
func around(first exact.Rat, others ...exact.Rat) span {
	return span{least(first, others...), greatest(first, others...)}
}

func (a span) hull(b span) span { return around(a.lo, a.hi, b.lo, b.hi) }

// meet returns what a and b have in common, and whether that is something.
func (a span) meet(b span) (common span, some bool) {
	common = span{greatest(a.lo, b.lo), least(a.hi, b.hi)}
	return common, common.lo.Compare(common.hi) <= 0
}

// within tells whether b has all numbers of a.
func (a span) within(b span) bool {
	return b.lo.Compare(a.lo) <= 0 && a.hi.Compare(b.hi) <= 0
}

func (a span) hasZero() bool { return point(exact.Rat{}).within(a) }

func (a span) negated() span { return span{a.hi.Negated(), a.lo.Negated()} }

func (a span) plus(b span) span { return span{a.lo.Plus(b.lo), a.hi.Plus(b.hi)} }

func (a span) minus(b span) span { return a.plus(b.negated()) }

func (a span) times(b span) span {
	return around(a.lo.Times(b.lo), a.lo.Times(b.hi), a.hi.Times(b.lo), a.hi.Times(b.hi))
}

// over throws ErrZero if b has 0.
func (a span) over(b span) span {
	if b.hasZero() {
		failure.Throw(api.ErrZero)
	}
	one := exact.One()
	return a.times(span{one.Over(b.hi), one.Over(b.lo)})
}

// power returns the image under the power n. The least even power is at the number that is nearest to 0.
func (a span) power(n int) span {
	if n < 0 || n > api.EnclosePower {
		failure.Throw(api.ErrValue)
	}
	lo, hi := exact.One(), exact.One()
	for range n {
		lo, hi = lo.Times(a.lo), hi.Times(a.hi)
	}
	if n > 0 && a.hasZero() {
		return around(lo, exact.Rat{}, hi)
	}
	return around(lo, hi)
}

// per returns the narrowest span with whole ends that has all numbers of a, divided by a unit that is greater than 0.
func (a span) per(unit exact.Rat) span {
	return span{a.lo.Per(unit), a.hi.Negated().Per(unit).Negated()}
}

// For how many choices of two numbers the first one is less.
const (
	forNone = iota
	forSome
	forAll
)

func (a span) below(b span) int {
	choices := forNone
	switch {
	case a.hi.Compare(b.lo) < 0:
		choices++
		fallthrough
	case a.lo.Compare(b.hi) < 0:
		choices++
	}
	switch choices {
	case forNone:
		return api.No
	case forAll:
		return api.Yes
	}
	return api.Maybe
}

// solutions returns all numbers of x that, multiplied by some number of b, are some number of a.
func (x span) solutions(a, b span) []span {
	switch {
	case !b.hasZero():
		return x.parts(a.over(b))
	case a.hasZero():
		return []span{x} // of each number, the product with 0 is 0
	case a.hi.Compare(exact.Rat{}) < 0:
		a, b = a.negated(), b.negated()
		fallthrough
	default:
		return x.parts(x.beyond(a.lo, b)...)
	}
}

// beyond returns, as far as x goes, the numbers whose product with some number of b, which has 0, is a given one that is greater than 0. They begin at the quotients by the ends of b, and go away from 0 without an end.
func (x span) beyond(product exact.Rat, b span) []span {
	var spans []span
	if !b.lo.IsZero() {
		end := product.Over(b.lo)
		spans = append(spans, span{least(end, x.lo), end})
	}
	if !b.hi.IsZero() {
		end := product.Over(b.hi)
		spans = append(spans, span{end, greatest(end, x.hi)})
	}
	return spans
}

// parts returns what x has in common with spans, if this is something.
func (x span) parts(spans ...span) []span {
	parts := slices.Clone(spans)
	size := 0
	for _, other := range spans {
		if common, some := x.meet(other); some {
			parts[size] = common
			size++
		}
	}
	return parts[:size:size]
}
