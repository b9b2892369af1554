package whole_test

import (
	"strings"
	"testing"

	"metewand/api"
	"metewand/whole"
)

// chance is a sequence of numbers that look random and are the same in each run.
type chance uint64

func (c *chance) below(n int) int {
	*c = *c*6364136223846793005 + 1442695040888963407
	return int(uint64(*c) >> 33 % uint64(n))
}

// number returns a whole number of so many digits, of one of several patterns that carry or borrow in different ways.
func (c *chance) number(digits int) string {
	text := make([]byte, digits)
	pattern := c.below(4)
	for i := range text {
		switch pattern {
		case 0:
			text[i] = '9'
		case 1:
			text[i] = '0'
		case 2:
			text[i] = "09"[c.below(2)]
		default:
			text[i] = byte('0' + c.below(10))
		}
	}
	text[digits-1] = byte('0' + c.below(10))
	text[0] = byte('1' + c.below(9))
	if c.below(2) == 0 {
		return "-" + string(text)
	}
	return string(text)
}

// samples returns numbers of up to so many digits, those around the limits of limbs and machine words among them.
func samples(seed chance, most int) []string {
	list := []string{"0", "1", "-1", "2", "-7", "10"}
	for _, digits := range []int{2, 8, 9, 10, 17, 18, 19, 20, 27, 28, 36, 37, 90, 133, 199, 200, 216, 260, 399, 400} {
		if digits <= most {
			list = append(list, seed.number(digits), seed.number(digits))
		}
	}
	return list
}

// pairs calls check with pairs of samples.
func pairs(seed chance, most int, check func(a, b string)) {
	list := samples(seed, most)
	for _, a := range list {
		for range 12 {
			check(a, list[seed.below(len(list))])
		}
		check(a, "0")
		check("0", a)
		check(a, a)
		check(a, minus(a))
	}
}

func minus(a string) string {
	if rest, cut := strings.CutPrefix(a, "-"); cut || a == "0" {
		return rest
	}
	return "-" + a
}

func amount(a string) string { return strings.TrimPrefix(a, "-") }

func negative(a string) bool { return a[0] == '-' }

// preview shortens a number for a message.
func preview(a string) string {
	if len(a) > 40 {
		return a[:20] + ".." + a[len(a)-18:]
	}
	return a
}

// must returns a function that returns a result, or ends the test if there is an error.
func must(t *testing.T) func(s string, e api.Errno) string {
	return func(s string, e api.Errno) string {
		t.Helper()
		if e != api.OK {
			t.Fatalf("unexpected error %d", e)
		}
		return s
	}
}

// The functions by hand compute with one digit after the other, as on paper; they share nothing with the program.

// digitsByHand returns the digits of an amount, the last one first.
func digitsByHand(a string) []int {
	var digits []int
	for i := len(a) - 1; i >= 0; i-- {
		digits = append(digits, int(a[i]-'0'))
	}
	return digits
}

func signedByHand(minus bool, digits []int) string {
	var text strings.Builder
	for i := len(digits) - 1; i >= 0; i-- {
		if digits[i] != 0 || text.Len() > 0 || i == 0 {
			text.WriteByte(byte('0' + digits[i]))
		}
	}
	if minus && text.String() != "0" {
		return "-" + text.String()
	}
	return text.String()
}

func compareByHand(a, b string) int {
	if negative(a) != negative(b) {
		if negative(a) {
			return -1
		}
		return 1
	}
	order := strings.Compare(amount(a), amount(b))
	if len(a) != len(b) {
		order = 1
		if len(a) < len(b) {
			order = -1
		}
	}
	if negative(a) {
		return -order
	}
	return order
}

func addByHand(a, b string) string {
	if negative(a) && negative(b) {
		return "-" + addByHand(amount(a), amount(b))
	}
	if compareByHand(amount(a), amount(b)) < 0 {
		a, b = b, a
	}
	x, y := digitsByHand(amount(a)), digitsByHand(amount(b))
	factor := 1
	if negative(a) != negative(b) {
		factor = -1
	}
	x = append(x, 0)
	carry := 0
	for i := range x {
		sum := x[i] + carry
		if i < len(y) {
			sum += factor * y[i]
		}
		carry = 0
		if sum < 0 {
			sum, carry = sum+10, -1
		} else if sum > 9 {
			sum, carry = sum-10, 1
		}
		x[i] = sum
	}
	return signedByHand(negative(a), x)
}

func mulByHand(a, b string) string {
	x, y := digitsByHand(amount(a)), digitsByHand(amount(b))
	z := make([]int, len(x)+len(y))
	for i := range x {
		for j := range y {
			z[i+j] += x[i] * y[j]
		}
	}
	for i := range len(z) - 1 {
		z[i+1] += z[i] / 10
		z[i] %= 10
	}
	return signedByHand(negative(a) != negative(b), z)
}

// fits returns what a function returns whose result by hand is a.
func fits(a string) (string, api.Errno) {
	if len(amount(a)) > api.Digits {
		return "", api.ErrLarge
	}
	return a, api.OK
}

// sumOfProducts returns a x + b y, by hand.
func sumOfProducts(a, x, b, y string) string {
	return addByHand(mulByHand(a, x), mulByHand(b, y))
}

func compare(t *testing.T, a, b string) int {
	t.Helper()
	order, e := whole.Compare(a, b)
	if e != api.OK {
		t.Fatalf("Compare(%s, %s): error %d", preview(a), preview(b), e)
	}
	return order
}
