package fixed

import (
	"metewand/api"
	"metewand/internal/exact"
	"metewand/internal/failure"
)

// form is a valid form at work: the given one, and its words.
type form struct {
	api.FixedForm
	words
}

// valid throws the error of a form.
func valid(f api.FixedForm) form {
	if !within(f.Bits, 1, api.FixedBits) || !within(f.Frac, -api.FixedFrac, api.FixedFrac) || !within(f.Round, api.RoundDown, api.RoundHalf) || !within(f.Over, api.OverFail, api.OverWrap) {
		failure.Throw(api.ErrValue)
	}
	return form{f, wordsOf(f)}
}

// both throws the error of the first form that has one.
func both(a, b api.FixedForm) (f, g form) {
	f = valid(a)
	return f, valid(b)
}

// scale returns 2 to the power Frac.
func (f form) scale() exact.Rat {
	power := exact.Whole(1 << max(f.Frac, -f.Frac))
	if f.Frac < 0 {
		return exact.One().Over(power)
	}
	return power
}

// number returns the number of a word.
func (f form) number(w int) exact.Rat { return exact.Whole(w).Over(f.scale()) }

// check throws an error unless w is a word.
func (f form) check(w int) {
	if !f.has(w) {
		failure.Throw(api.ErrRange)
	}
}

// read returns the number of what has to be a word.
func (f form) read(w int) exact.Rat {
	f.check(w)
	return f.number(w)
}

// raw returns the raw word of a number.
func (f form) raw(a exact.Rat) exact.Rat {
	return pointAt(a.Times(f.scale())).rounded(f.Round)
}

// word returns the word of a number. An int that is nearest to a raw word is enough to see whether it is a word, as all words are far from the ends of the ints.
func (f form) word(a exact.Rat) int {
	raw := f.raw(a)
	near := raw.Int()
	if f.has(near) {
		return near
	}
	switch all := f.words.(type) {
	case clipping:
		return all.nearest(near)
	case wrapping:
		return all.congruent(raw.Low())
	}
	failure.Throw(api.ErrRange)
	return 0
}
