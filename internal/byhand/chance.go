package byhand

import (
	"strconv"

	"metewand/api"
)

// Chance is a sequence of numbers that look random and are the same in each run.
type Chance uint64

// Below returns a number that is not less than 0, and less than n.
func (c *Chance) Below(n int) int {
	*c = *c*6364136223846793005 + 1442695040888963407
	return int(uint64(*c) >> 33 % uint64(n))
}

// Number returns a whole number of so many digits, of one of several patterns that carry or borrow in different ways.
func (c *Chance) Number(digits int) string {
	text := make([]byte, digits)
	pattern := c.Below(4)
	for i := range text {
		switch pattern {
		case 0:
			text[i] = '9'
		case 1:
			text[i] = '0'
		case 2:
			text[i] = "09"[c.Below(2)]
		default:
			text[i] = byte('0' + c.Below(10))
		}
	}
	text[digits-1] = byte('0' + c.Below(10))
	text[0] = byte('1' + c.Below(9))
	if c.Below(2) == 0 {
		return "-" + string(text)
	}
	return string(text)
}

// Rat returns a rational number: one with up to so many digits, or a small one, which is often whole.
func (c *Chance) Rat(digits int) api.Rat {
	switch {
	case digits > 0 && c.Below(2) == 0:
		return Reduced(c.Number(1+c.Below(digits)), Add(Amount(c.Number(1+c.Below(digits))), "1"))
	case c.Below(3) == 0:
		return Reduced(strconv.Itoa(c.Below(61)-30), strconv.Itoa(1+c.Below(12)))
	}
	return api.Rat{Num: strconv.Itoa(c.Below(9) - 4), Den: "1"}
}
