package fixed

import (
	"metewand/api"
	"metewand/internal/exact"
	"metewand/internal/failure"
)

// dot returns the sum of the products of the numbers of words.
func (f form) dot(v, w []int) exact.Rat {
	switch {
	case max(len(v), len(w)) > api.FixedTerms:
		failure.Throw(api.ErrMany)
	case len(v) != len(w):
		failure.Throw(api.ErrShape)
	}
	for _, list := range [...][]int{v, w} {
		for _, element := range list {
			f.check(element)
		}
	}
	sum := exact.Rat{}
	for i := range v {
		sum = sum.Plus(f.number(v[i]).Times(f.number(w[i])))
	}
	return sum
}

// operation throws an error if there is none of this name.
func operation(op int) func(a, b exact.Rat) exact.Rat {
	switch op {
	case api.Add:
		return exact.Rat.Plus
	case api.Sub:
		return exact.Rat.Minus
	case api.Mul:
		return exact.Rat.Times
	case api.Div:
		return quotient
	}
	failure.Throw(api.ErrKind)
	return nil
}

func quotient(a, b exact.Rat) exact.Rat {
	if b.IsZero() {
		failure.Throw(api.ErrZero)
	}
	return a.Over(b)
}
