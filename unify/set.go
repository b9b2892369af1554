package unify

import (
	"iter"
	"math/bits"
)

// set is a set of equations, a bit for each; api.UnifyEqs bits are enough.
type set uint64

// bit returns the set of one equation.
func bit(i int) set { return 1 << i }

func (s set) size() int { return bits.OnesCount64(uint64(s)) }

// each goes through the equations, ascending.
func (s set) each() iter.Seq[int] {
	return func(yield func(int) bool) {
		for ; s != 0; s &= s - 1 {
			if !yield(bits.TrailingZeros64(uint64(s))) {
				return
			}
		}
	}
}
