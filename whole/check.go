package whole

import (
	"strings"

	"metewand/api"
	"metewand/internal/failure"
)

// kind says what a string is as a whole number; a greater kind of those that are valid needs more room.
type kind int

const (
	formless kind = iota // not in the form of a whole number
	endless              // of more digits than are allowed
	short                // of so few digits that a small holds it
	long                 // of more digits
)

// shortDigits is so small that sums of two smalls never overflow.
const shortDigits = 18

func kindOf(a string) kind {
	if !wellFormed(a, 10) {
		return formless
	}
	_, digits := signOf(a)
	switch {
	case len(digits) > api.Digits:
		return endless
	case len(digits) > shortDigits:
		return long
	}
	return short
}

// valid throws the error of the first number that has one, and returns the greatest kind of them all.
func valid(numbers ...string) kind {
	widest := short
	for _, a := range numbers {
		k := kindOf(a)
		switch k {
		case formless:
			failure.Throw(api.ErrForm)
		case endless:
			failure.Throw(api.ErrLarge)
		}
		widest = max(widest, k)
	}
	return widest
}

// wellFormed tells whether s is digits of the base without a leading zero, with or without a minus sign.
func wellFormed(s string, base int) bool {
	minus, digits := signOf(s)
	if digits == "" || digits[0] == '0' && (minus.negative() || digits != "0") {
		return false
	}
	for _, r := range digits {
		if digitOf(r) >= base {
			return false
		}
	}
	return true
}

// signOf returns the sign of a number, and its digits.
func signOf(s string) (sign, string) {
	digits, minus := strings.CutPrefix(s, "-")
	return sign(minus), digits
}

// noDigit is greater than all digits of all bases.
const noDigit = 99

// digitOf returns what a digit stands for, in the bases that have it.
func digitOf(r rune) int {
	switch {
	case 'a' <= r && r <= 'z':
		r -= 'a' - ('9' + 1) // letters go on where the digits end
		fallthrough
	case '0' <= r && r <= '9':
		return int(r - '0')
	}
	return noDigit
}
