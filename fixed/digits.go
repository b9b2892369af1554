package fixed

import (
	"strings"

	"metewand/api"
	"metewand/internal/failure"
)

// digits returns the binary digits of a word. The bits of a word that is less than 0 are those of the word and 2^64, which are at these places those of the word and 2^Bits.
func (f form) digits(w int) string {
	var text strings.Builder
	for i := range f.Bits {
		bit := uint64(w) >> (f.Bits - 1 - i) & 1
		text.WriteRune('0' + rune(bit))
	}
	return text.String()
}

// parsed returns the word of binary digits.
func (f form) parsed(s string) int {
	if len(s) != f.Bits {
		failure.Throw(api.ErrForm)
	}
	pattern := uint64(0)
	for _, digit := range s {
		if !within(digit, '0', '1') {
			failure.Throw(api.ErrForm)
		}
		pattern = pattern<<1 | uint64(digit-'0')
	}
	return f.congruent(pattern)
}
