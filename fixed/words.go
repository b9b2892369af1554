package fixed

import (
	"cmp"

	"metewand/api"
)

// words are the words of a form. Each way to treat a raw word that is none of them is a type: failing, clipping or wrapping.
type words interface {
	ends() (least, most int)
	has(w int) bool
	congruent(pattern uint64) int
}

// wordsOf returns the words of a valid form.
func wordsOf(f api.FixedForm) words {
	all := span{0, 1<<f.Bits - 1}
	if f.Signed {
		half := 1 << (f.Bits - 1)
		all = span{-half, half - 1}
	}
	switch f.Over {
	case api.OverClip:
		return clipping{all}
	case api.OverWrap:
		return wrapping{all}
	}
	return failing{all}
}

// span is all whole numbers from the least to the most; so many as a power of 2 is.
type span struct{ least, most int }

func (s span) ends() (least, most int) { return s.least, s.most }

func (s span) has(w int) bool { return within(w, s.least, s.most) }

// congruent returns the word that differs from a pattern by a multiple of how many words there are. It is the pattern's distance from the least word that is cut; this may go around the end of the uint64s, as these are a multiple of the words, too.
func (s span) congruent(pattern uint64) int {
	distance := pattern - uint64(s.least)
	return s.least + int(distance&uint64(s.most-s.least))
}

type (
	failing  struct{ span }
	clipping struct{ span }
	wrapping struct{ span }
)

func (c clipping) nearest(raw int) int { return limited(raw, c.least, c.most) }

// limited returns what is nearest to x from the least to the most.
func limited[T cmp.Ordered](x, least, most T) T { return min(max(x, least), most) }

// within tells whether x is from the least to the most.
func within[T cmp.Ordered](x, least, most T) bool { return limited(x, least, most) == x }
