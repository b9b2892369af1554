package enclose

import (
	"iter"

	"metewand/internal/exact"
)

// series is a number as the sum of terms: of powers that follow each other, each divided by a whole number, its share. A power is the one before, times a factor, and divided by a whole number, too. All spans have whole ends, and stand for numbers times the scale.
type series struct {
	scale          exact.Rat
	first, factor  span
	divisor, share func(i int) int // of the power behind that of the term i, and of the term i
}

// steady is the number of a term from which on each is less than half of the one before, in all the series that are used here; so the terms behind one of these are together less than it.
const steady = 8

// terms goes through all terms.
func (s series) terms() iter.Seq2[int, span] {
	return func(yield func(int, span) bool) {
		power := s.first
		for i := 0; yield(i, power.per(exact.Whole(s.share(i)))); i++ {
			power = power.times(s.factor).per(s.scale.Times(exact.Whole(s.divisor(i))))
		}
	}
}

// sum returns a span that has the sum of all terms.
func (s series) sum() span {
	sum := point(exact.Rat{})
	unit := span{exact.Whole(-1), exact.One()}
adding:
	for i, term := range s.terms() {
		sum = sum.plus(term)
		switch {
		case i < steady:
		case term.within(unit):
			break adding
		}
	}
	return sum.plus(unit)
}

// undivided is the share of terms that are powers.
func undivided(int) int { return 1 }
