package exact

import (
	"cmp"
	"math/bits"
	"slices"
)

// natural is the words of a number that is not less than 0, the least word first. The last word is not 0, and no word changes once the number is made.
type natural []uint64

// trimmed returns the words without leading zeros.
func (x natural) trimmed() natural {
	size := len(x)
	for size > 0 && x[size-1] == 0 {
		size--
	}
	return x[:size:size]
}

// word returns a word, 0 where there is none.
func (x natural) word(i int) uint64 {
	if i < 0 || i >= len(x) {
		return 0
	}
	return x[i]
}

func (x natural) isOne() bool { return len(x) == 1 && x[0] == 1 }

func (x natural) compare(y natural) int {
	if len(x) != len(y) {
		return cmp.Compare(len(x), len(y))
	}
	for i, word := range slices.Backward(x) {
		if word != y[i] {
			return cmp.Compare(word, y[i])
		}
	}
	return 0
}

func (x natural) plus(y natural) natural {
	z := make(natural, max(len(x), len(y))+1)
	carry := uint64(0)
	for i := range z {
		z[i], carry = bits.Add64(x.word(i), y.word(i), carry)
	}
	return z.trimmed()
}

// minus returns x less y, which is not greater.
func (x natural) minus(y natural) natural {
	z := make(natural, len(x))
	borrow := uint64(0)
	for i := range z {
		z[i], borrow = bits.Sub64(x[i], y.word(i), borrow)
	}
	return z.trimmed()
}

func (x natural) times(y natural) natural {
	switch {
	case x.isOne():
		return y
	case y.isOne():
		return x
	}
	z := make(natural, len(x)+len(y))
	for i, factor := range x {
		carry := z[i:i+len(y)].gain(y, factor)
		z[i+len(y)] = carry
	}
	return z.trimmed()
}

// gain adds y times a factor to x, which has as many words, and returns the carry. It is for numbers that are being made.
func (x natural) gain(y natural, factor uint64) (carry uint64) {
	for i, word := range y {
		high, low := bits.Mul64(word, factor)
		low, more := bits.Add64(low, carry, 0)
		high += more
		x[i], more = bits.Add64(x[i], low, 0)
		carry = high + more
	}
	return carry
}

// scaled returns x times a factor, and a word more.
func (x natural) scaled(factor, word uint64) natural {
	z := make(natural, len(x)+1)
	z[0] = word
	for i := range x {
		high, low := bits.Mul64(x[i], factor)
		sum, more := bits.Add64(z[i], low, 0)
		z[i], z[i+1] = sum, high+more
	}
	return z.trimmed()
}

// shifted returns x times 2 to the power n, which is less than 64, in a word more.
func (x natural) shifted(n int) natural {
	z := make(natural, len(x)+1)
	for i := range z {
		z[i] = x.word(i)<<n | x.word(i-1)>>(64-n)
	}
	return z
}

// over returns the quotient, rounded down, and the remainder; y is not 0.
func (x natural) over(y natural) (quotient, rest natural) {
	switch {
	case x.compare(y) < 0:
		return nil, x
	case y.isOne():
		return x, nil
	case len(y) == 1:
		quotient, last := x.overWord(y[0])
		return quotient, natural{last}.trimmed()
	}
	return x.longDivision(y)
}

func (x natural) overWord(divisor uint64) (quotient natural, rest uint64) {
	quotient = make(natural, len(x))
	for i := len(x) - 1; i >= 0; i-- {
		quotient[i], rest = bits.Div64(rest, x[i], divisor)
	}
	return quotient.trimmed(), rest
}

// longDivision divides as on paper, word by word; y has two words or more. Both numbers are shifted, so that the first bit of y is the first one of a word: then a guess from two words is too large by 2 at most, and seldom by 1 after a look at a third one.
func (x natural) longDivision(y natural) (quotient, rest natural) {
	shift := bits.LeadingZeros64(y[len(y)-1])
	rest, divisor := x.shifted(shift), y.shifted(shift)[:len(y)]
	quotient = make(natural, len(x)-len(y)+1)
	for place := len(quotient) - 1; place >= 0; place-- {
		window := rest[place : place+len(y)+1]
		guess := window.guess(divisor)
		if window.lose(divisor, guess) {
			guess--
			window.giveBack(divisor)
		}
		quotient[place] = guess
	}
	for i := range rest {
		rest[i] = rest[i]>>shift | rest.word(i+1)<<(64-shift)
	}
	return quotient.trimmed(), rest.trimmed()
}

// guess returns how many times the divisor is in the window, which has a word more, or 1 more than this.
func (x natural) guess(divisor natural) uint64 {
	top := len(divisor)
	first, second := divisor[top-1], divisor[top-2]
	guess, left, over := ^uint64(0), uint64(0), uint64(0)
	if x[top] < first {
		guess, left = bits.Div64(x[top], x[top-1], first)
	} else {
		left, over = bits.Add64(x[top-1], first, 0)
	}
	for over == 0 {
		high, low := bits.Mul64(guess, second)
		if high < left || high == left && low <= x[top-2] {
			break
		}
		guess--
		left, over = bits.Add64(left, first, 0)
	}
	return guess
}

// lose subtracts y so many times from x, which has a word more, and tells whether it was not in it as many times. It is for numbers that are being made, as giveBack is.
func (x natural) lose(y natural, times uint64) bool {
	due, borrow := uint64(0), uint64(0)
	for i, word := range y {
		high, low := bits.Mul64(word, times)
		low, more := bits.Add64(low, due, 0)
		due = high + more
		x[i], borrow = bits.Sub64(x[i], low, borrow)
	}
	top := len(y)
	x[top], borrow = bits.Sub64(x[top], due, borrow)
	return borrow != 0
}

// giveBack adds y to x, which has a word more.
func (x natural) giveBack(y natural) {
	carry := uint64(0)
	for i := range x {
		x[i], carry = bits.Add64(x[i], y.word(i), carry)
	}
}

// divided returns x over y, which divides it.
func (x natural) divided(y natural) natural {
	quotient, _ := x.over(y)
	return quotient
}

// root returns the greatest number whose square is not greater than x, by Newton's way: from a number that is not less, guesses go down to it.
func (x natural) root() natural {
	if len(x) == 0 {
		return nil
	}
	size := len(x)*64 - bits.LeadingZeros64(x[len(x)-1])
	guess := powerOfTwo((size + 1) / 2)
	for {
		quotient, _ := x.over(guess)
		next, _ := guess.plus(quotient).overWord(2)
		if next.compare(guess) >= 0 {
			return guess
		}
		guess = next
	}
}

func powerOfTwo(n int) natural {
	z := make(natural, n/64+1)
	z[n/64] = 1 << (n % 64)
	return z
}

// Decimal digits are read and written in chunks.
const (
	chunkDigits = 19
	chunkBase   = 10_000_000_000_000_000_000
)

// naturalOf returns the number of decimal digits.
func naturalOf(digits string) natural {
	var x natural
	for len(digits) > 0 {
		size := (len(digits)-1)%chunkDigits + 1
		power, chunk := uint64(1), uint64(0)
		for i := range size {
			power *= 10
			chunk = chunk*10 + uint64(digits[i]-'0')
		}
		digits = digits[size:]
		x = x.scaled(power, chunk)
	}
	return x
}

func (x natural) text() string {
	if len(x) == 0 {
		return "0"
	}
	var text []byte
	for len(x) > 0 {
		rest, chunk := x.overWord(chunkBase)
		for i := 0; i < chunkDigits && (len(rest) > 0 || chunk > 0); i++ {
			text = append(text, byte('0'+chunk%10))
			chunk /= 10
		}
		x = rest
	}
	slices.Reverse(text)
	return string(text)
}
