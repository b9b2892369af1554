package dim

import (
	"cmp"
	"maps"
	"slices"

	"metewand/api"
	"metewand/internal/exact"
	"metewand/internal/failure"
	"metewand/ratio"
)

// exponents is a product of powers at work: of bases, by their names, or of dimensions, by their places in a list. None of them is 0.
type exponents[K cmp.Ordered] map[K]exact.Rat

// gain multiplies x by a power.
func (x exponents[K]) gain(key K, exp exact.Rat) {
	if before, is := x[key]; is {
		exp = before.Plus(exp)
	}
	if exp.IsZero() {
		delete(x, key)
		return
	}
	x[key] = exp
}

// lose divides x by a power.
func (x exponents[K]) lose(key K, exp exact.Rat) {
	x.gain(key, exp.Negated())
}

// multiply multiplies x by another product to a power.
func (x exponents[K]) multiply(y exponents[K], power exact.Rat) {
	for key, exp := range y {
		x.gain(key, exp.Times(power))
	}
}

// sorted returns the dimension of a product of powers of bases.
func sorted(x exponents[string]) powers {
	d := make(powers, 0, len(x))
	for _, base := range slices.Sorted(maps.Keys(x)) {
		d = append(d, api.Power{Base: base, Exp: x[base].Returned()})
	}
	return d
}

// calculation is a dimension at work, which has a first one, and how it takes each power of a second one.
type calculation struct {
	exponents[string]
	take func(base string, exp exact.Rat)
}

func (c calculation) of(a, b []api.Power) ([]api.Power, api.Errno) {
	return failure.Guarded(func() []api.Power {
		first, second := both(a, b)
		first.each(c.gain)
		second.each(c.take)
		return sorted(c.exponents)
	})
}

// factor is a dimension in a product, and the power to which it is there.
type factor struct {
	powers
	exp exact.Rat
}

// single returns a base as a dimension.
func single(base string) powers {
	return powers{{Base: base, Exp: api.Rat{Num: "1", Den: "1"}}}
}

func product(factors ...factor) powers {
	work := exponents[string]{}
	for _, f := range factors {
		work.multiply(f.atWork(), f.exp)
	}
	return sorted(work)
}

// factorsOf throws the errors of dimensions and their exponents.
func factorsOf(l [][]api.Power, exps []api.Rat) []factor {
	failure.Check(firstFault(l, fault))
	failure.Check(firstFault(exps, ratio.Check))
	switch {
	case len(exps) < len(l):
		failure.Throw(api.ErrFew)
	case len(exps) > len(l):
		failure.Throw(api.ErrMany)
	}
	factors := make([]factor, len(l))
	for i, d := range l {
		factors[i] = factor{d, exact.Of(exps[i])}
	}
	return factors
}
