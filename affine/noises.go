package affine

import (
	"iter"

	"metewand/api"
	"metewand/internal/failure"
)

// noises is a set of them: a bit each.
type noises uint32

const (
	noNoise    noises = 0
	firstNoise noises = 1 << iota // the bit of the noise 1; those of the next ones follow
)

func bitOf(noise int) noises { return firstNoise << (noise - 1) }

func (s noises) has(noise int) bool { return s&bitOf(noise) != 0 }

func (s noises) with(noise int) noises { return s | bitOf(noise) }

func (s noises) without(noise int) noises { return s &^ bitOf(noise) }

func (s noises) union(t noises) noises { return s | t }

func (s noises) common(t noises) noises { return s & t }

func (s noises) less(t noises) noises { return s &^ t }

// each goes through the noises of the set, ascending.
func (s noises) each() iter.Seq[int] {
	return func(yield func(int) bool) {
		for i := range api.AffineNoise {
			if noise := i + 1; s.has(noise) && !yield(noise) {
				return
			}
		}
	}
}

// checkNoise throws ErrValue unless the number is that of a noise.
func checkNoise(noise int) {
	if noise < 1 || noise > api.AffineNoise {
		failure.Throw(api.ErrValue)
	}
}
