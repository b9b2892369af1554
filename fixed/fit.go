package fixed

import (
	"math/bits"

	"metewand/api"
	"metewand/internal/exact"
	"metewand/internal/failure"
)

// fitted returns the form with the fewest bits for all numbers from lo to hi. As the laws keep the order of numbers, the raw words of both ends say it all.
func fitted(lo, hi exact.Rat, frac, round int) api.FixedForm {
	if lo.Compare(hi) > 0 {
		failure.Throw(api.ErrOrder)
	}
	f := valid(api.FixedForm{Bits: 1, Frac: frac, Round: round})
	least, most := f.raw(lo).Int(), f.raw(hi).Int()
	f.Bits = max(size(least), size(most))
	if f.Signed = least < 0; f.Signed {
		f.Bits++
	}
	// 0 alone has no bits, but each form has one.
	f.Bits = max(f.Bits, 1)
	if f.Bits > api.FixedBits {
		failure.Throw(api.ErrLarge)
	}
	return f.FixedForm
}

// size returns how many bits a word needs besides its sign.
func size(w int) int {
	if w < 0 {
		w = ^w
	}
	return bits.Len64(uint64(w))
}
