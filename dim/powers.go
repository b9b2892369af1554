package dim

import (
	"strings"

	"metewand/api"
	"metewand/internal/exact"
	"metewand/internal/failure"
	"metewand/ratio"
)

// powers is a dimension as it is given and returned.
type powers []api.Power

const letters = "abcdefghijklmnopqrstuvwxyz"

func isBase(s string) bool {
	return s != "" && len(s) <= api.EvalBase && strings.Trim(s, letters) == ""
}

// firstFault returns the error of the first element that has one.
func firstFault[T any](list []T, faultOf func(T) api.Errno) api.Errno {
	for _, x := range list {
		if e := faultOf(x); e != api.OK {
			return e
		}
	}
	return api.OK
}

// fault returns the error of a dimension.
func fault(d []api.Power) api.Errno {
	last := "" // comes before all bases
	return firstFault(d, func(p api.Power) api.Errno {
		switch {
		case !isBase(p.Base):
			return api.ErrName
		case p.Base <= last:
			return api.ErrOrder
		}
		last = p.Base
		if e := ratio.Check(p.Exp); e != api.OK {
			return e
		}
		if p.Exp.Num == "0" {
			return api.ErrValue
		}
		return api.OK
	})
}

// valid throws the error of a dimension.
func valid(d []api.Power) powers {
	failure.Check(fault(d))
	return d
}

// both throws the error of the first dimension that has one.
func both(a, b []api.Power) (first, second powers) {
	first = valid(a)
	return first, valid(b)
}

// each does something with each base and its exponent.
func (d powers) each(do func(base string, exp exact.Rat)) {
	for _, p := range d {
		do(p.Base, exact.Of(p.Exp))
	}
}

func (d powers) atWork() exponents[string] {
	work := make(exponents[string], len(d))
	d.each(work.gain)
	return work
}

// rebased returns the factors of d, with what stands for its bases.
func (d powers) rebased(standIns map[string]powers) []factor {
	var factors []factor
	d.each(func(base string, exp exact.Rat) {
		standIn, is := standIns[base]
		if !is {
			standIn = single(base)
		}
		factors = append(factors, factor{standIn, exp})
	})
	return factors
}

// standIns returns what stands for bases, and throws the first error of a list of it.
func standIns(bases []api.DimBase) map[string]powers {
	known := map[string]powers{}
	failure.Check(firstFault(bases, func(b api.DimBase) api.Errno {
		_, twice := known[b.Base]
		switch {
		case !isBase(b.Base):
			return api.ErrName
		case twice:
			return api.ErrTwice
		}
		known[b.Base] = b.Dim
		return fault(b.Dim)
	}))
	return known
}
