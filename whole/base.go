package whole

import (
	"iter"
	"slices"

	"metewand/api"
	"metewand/internal/failure"
)

const (
	leastBase    = 2
	greatestBase = 36
	// mostDigits is how many digits a number may have in the base 2, which needs the most: 10^400 is less than 2^1329.
	mostDigits = 1329
)

func checkBase(base int) {
	if base < leastBase || base > greatestBase {
		failure.Throw(api.ErrValue)
	}
}

// chunkOf returns how many digits of the base fit into a limb, and the power of the base that these are less than.
func chunkOf(base int) (digits int, power uint64) {
	power = 1
	for power*uint64(base) <= limbBase {
		power *= uint64(base)
		digits++
	}
	return digits, power
}

func toBase(a string, base int) string {
	valid(a)
	checkBase(base)
	n := numberOf(a)
	var text []byte
	for digit := range n.limbs.digitsIn(base) {
		text = append(text, "0123456789abcdefghijklmnopqrstuvwxyz"[digit])
	}
	if len(text) == 0 {
		return "0"
	}
	if n.negative() {
		text = append(text, '-')
	}
	slices.Reverse(text)
	return string(text)
}

// digitsIn goes through the digits in the base, the last one first, up to the first one that is not 0. (0 has none.)
func (x natural) digitsIn(base int) iter.Seq[int] {
	size, power := chunkOf(base)
	return func(yield func(int) bool) {
		rest := x.copied(len(x))
		for len(rest) > 0 {
			chunk := int(rest.shrink(power))
			rest = rest.trimmed()
			for i := 0; i < size && (chunk > 0 || len(rest) > 0); i++ {
				if !yield(chunk % base) {
					return
				}
				chunk /= base
			}
		}
	}
}

func fromBase(s string, base int) string {
	checkBase(base)
	if !wellFormed(s, base) {
		failure.Throw(api.ErrForm)
	}
	minus, digits := signOf(s)
	if len(digits) > mostDigits {
		failure.Throw(api.ErrLarge)
	}
	return signed(minus, naturalIn(digits, base)).text()
}

// naturalIn returns the number of at most mostDigits digits in the base.
func naturalIn(digits string, base int) natural {
	size, _ := chunkOf(base)
	n := make(natural, 0, len(digits)/5+1)
	for len(digits) > 0 {
		size = min(size, len(digits))
		power, chunk := uint64(1), uint64(0)
		for _, r := range digits[:size] {
			power *= uint64(base)
			chunk = chunk*uint64(base) + uint64(digitOf(r))
		}
		digits = digits[size:]
		if carry := n.scale(power, chunk); carry > 0 {
			n = append(n, uint32(carry))
		}
	}
	return n.trimmed()
}
