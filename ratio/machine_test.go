package ratio_test

import (
	"strconv"

	"metewand/api"
)

// The functions here compute with the machine's numbers.

func divisor(n, m int) int {
	if m == 0 {
		return max(n, -n)
	}
	return divisor(m, n%m)
}

// machine returns n/d; d is greater than 0.
func machine(n, d int) api.Rat {
	g := divisor(n, d)
	return api.Rat{Num: strconv.Itoa(n / g), Den: strconv.Itoa(d / g)}
}

func parts(a api.Rat) (n, d int) {
	n, _ = strconv.Atoi(a.Num)
	d, _ = strconv.Atoi(a.Den)
	return n, d
}

// simpler tells whether n/d is simpler than m/c.
func simpler(n, d, m, c int) bool {
	if d != c {
		return d < c
	}
	if max(n, -n) != max(m, -m) {
		return max(n, -n) < max(m, -m)
	}
	return n > m
}

// betweenBySearch returns the simplest number between two, the first of which is the lesser one.
func betweenBySearch(a, b api.Rat) api.Rat {
	n, c := parts(a)
	m, e := parts(b)
	for d := 1; ; d++ {
		best, found := 0, false
		for x := -9 * d; x <= 9*d; x++ {
			if n*d < x*c && x*e < m*d && (!found || simpler(x, d, best, d)) {
				best, found = x, true
			}
		}
		if found {
			return machine(best, d)
		}
	}
}

// nearBySearch returns the number nearest to a with a denominator of at most so many.
func nearBySearch(a api.Rat, most int) api.Rat {
	n, c := parts(a)
	best, den := 0, 1
	for d := 1; d <= most; d++ {
		for x := n*d/c - 2; x <= n*d/c+2; x++ {
			// Distances times c, d and den.
			next, last := max(n*d-x*c, x*c-n*d)*den, max(n*den-best*c, best*c-n*den)*d
			if next < last || next == last && simpler(x, d, best, den) {
				best, den = x, d
			}
		}
	}
	return machine(best, den)
}

// expandBySearch returns the expansion of n/d, for n not less than 0, by division on paper.
func expandBySearch(n, d int) (front, period string) {
	front = strconv.Itoa(n / d)
	if n%d == 0 {
		return front, ""
	}
	var digits []byte
	var rests []int
	for rest := n % d; rest > 0; rest = rest * 10 % d {
		for i, r := range rests {
			if r == rest {
				return front + "." + string(digits[:i]), string(digits[i:])
			}
		}
		rests = append(rests, rest)
		digits = append(digits, byte('0'+rest*10/d))
	}
	return front + "." + string(digits), ""
}
