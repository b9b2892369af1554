package affine

import (
	"iter"

	"metewand/api"
	"metewand/internal/exact"
	"metewand/internal/failure"
	"metewand/ratio"
)

// checked goes through the noises of terms and their Sizes. It throws the first error of a term: of its noise, which has to be greater than the one before it, and of its Size, which has to pass a check of its own.
func checked(terms []api.AffineTerm, check func(size api.Rat)) iter.Seq2[int, api.Rat] {
	return func(yield func(int, api.Rat) bool) {
		last, rest := 0, terms
	next:
		if len(rest) == 0 {
			return
		}
		term := rest[0]
		checkNoise(term.Noise)
		if term.Noise <= last {
			failure.Throw(api.ErrOrder)
		}
		failure.Check(ratio.Check(term.Size))
		check(term.Size)
		if yield(term.Noise, term.Size) {
			last, rest = term.Noise, rest[1:]
			goto next
		}
	}
}

// checkCounts throws ErrZero if a Size is 0.
func checkCounts(size api.Rat) {
	if exact.Of(size).IsZero() {
		failure.Throw(api.ErrZero)
	}
}

// checkReach throws ErrValue unless a noise can have the value.
func checkReach(value api.Rat) {
	if exact.Of(value).Amount().Compare(exact.One()) > 0 {
		failure.Throw(api.ErrValue)
	}
}

// setting is the values of some noises. All others have the value 0.
type setting map[int]exact.Rat

// validSetting throws the error of a setting.
func validSetting(terms []api.AffineTerm) setting {
	set := setting{}
	for noise, value := range checked(terms, checkReach) {
		set[noise] = exact.Of(value)
	}
	return set
}
