package ratio

import (
	"iter"
	"slices"

	"metewand/api"
	"metewand/internal/failure"
	"metewand/whole"
)

// terms goes through the terms of the continued fraction of n.
func (n number) terms() iter.Seq[string] {
	return func(yield func(string) bool) {
		x := n.mixed()
		for yield(x.floor) && !x.isZero() {
			x = x.inverse().mixed()
		}
	}
}

func (n number) fraction() []string {
	return appended(nil, slices.Collect(n.terms())...)
}

// appended returns a new list, whatever room there is behind the given one.
func appended(list []string, terms ...string) []string {
	return append(list[:len(list):len(list)], terms...)
}

func ofFraction(terms []string) number {
	switch {
	case len(terms) == 0:
		failure.Throw(api.ErrFew)
	case len(terms) > api.RatioTerms:
		failure.Throw(api.ErrMany)
	}
	for _, term := range terms {
		must(term, whole.Check(term))
	}
	for _, term := range terms[1:] {
		if term == "0" || negative(term) {
			failure.Throw(api.ErrValue)
		}
	}
	return ofTerms(terms)
}

// ofTerms returns the number of a continued fraction, whose terms but the first one are greater than 0. It goes from the last one to the first one: no number on the way has a longer numerator or denominator than the result.
func ofTerms(terms []string) number {
	last := len(terms) - 1
	n := of(terms[last], "1")
	for i := last - 1; i >= 0; i-- {
		n = mixed{terms[i], n.inverse()}.improper()
	}
	return n
}
