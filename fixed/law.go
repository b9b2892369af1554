package fixed

import (
	"metewand/api"
	"metewand/internal/exact"
)

// point is a number: the greatest whole one that is not greater, and what is left.
type point struct {
	floor, rest exact.Rat
	minus       bool // it is less than 0
}

func pointAt(x exact.Rat) point {
	floor := x.Per(exact.One())
	return point{floor, x.Minus(floor), x.Compare(exact.Rat{}) < 0}
}

// rounded returns the whole number that a law says.
func (p point) rounded(round int) exact.Rat {
	law := p.laws()[p.law(round)]
	return law()
}

// The places of the laws in the table of laws.
const (
	lower = iota
	upper
	nearer
)

// laws returns the laws to which all laws of forms come down.
func (p point) laws() []func() exact.Rat {
	return []func() exact.Rat{lower: p.lower, upper: p.upper, nearer: p.nearer}
}

// law returns the place of the law to which the law of a form comes down at this point.
func (p point) law(round int) int {
	switch round {
	case api.RoundZero:
		if p.minus {
			return upper
		}
		fallthrough
	case api.RoundDown:
		return lower
	case api.RoundAway:
		if p.minus {
			return lower
		}
		fallthrough
	case api.RoundUp:
		return upper
	case api.RoundEven:
		if p.half() == 0 && p.floor.Low()%2 == 0 {
			return lower
		}
		fallthrough
	default: // api.RoundHalf
		return nearer
	}
}

func (p point) lower() exact.Rat { return p.floor }

func (p point) upper() exact.Rat {
	if p.rest.IsZero() {
		return p.floor
	}
	return p.floor.Plus(exact.One())
}

// nearer returns the nearest whole number, of two the greater one.
func (p point) nearer() exact.Rat {
	if p.half() < 0 {
		return p.floor
	}
	return p.upper()
}

// half compares what is left with 1/2.
func (p point) half() int { return p.rest.Plus(p.rest).Compare(exact.One()) }
