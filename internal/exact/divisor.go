package exact

import "math/bits"

// gcd returns the greatest common divisor. It does as many steps of Euclid's algorithm at once as the first bits of both numbers surely tell (Lehmer's way).
func (x natural) gcd(y natural) natural {
	if x.compare(y) < 0 {
		x, y = y, x
	}
	for len(y) > 1 {
		c := foresee(leading(x, y))
		if c.v0 == 0 {
			_, rest := x.over(y)
			x, y = y, rest
			continue
		}
		x, y = c.lessened(x, y)
	}
	switch {
	case len(y) == 0:
		return x
	case y.isOne():
		return y
	}
	_, rest := x.overWord(y[0])
	return natural{wordDivisor(y[0], rest)}
}

func wordDivisor(x, y uint64) uint64 {
	for y > 0 {
		x, y = y, x%y
	}
	return x
}

// leading returns the first 64 bits of x, which has two words or more, and the bits of y, which is not greater, at the same places.
func leading(x, y natural) (a, b uint64) {
	top := len(x) - 1
	shift := bits.LeadingZeros64(x[top])
	return x[top]<<shift | x[top-1]>>(64-shift), y.word(top)<<shift | y.word(top-1)>>(64-shift)
}

// cofactors say what some steps of the algorithm make of x and y: u0 x - v0 y, and v1 y - u1 x; both with the other sign if odd is true.
type cofactors struct {
	u0, v0, u1, v1 uint64
	odd            bool
}

// foresee does the steps with numbers of which 64 bits are known, as long as all that begin with these have the same quotients (Collins' condition). Then no cofactor is greater than 2^32. If v0 is 0, there is no such step.
func foresee(x, y uint64) cofactors {
	c := cofactors{u1: 1, odd: true}
	u2, v2 := uint64(0), uint64(1)
	for y >= v2 && x-y >= c.v1+v2 {
		q := x / y
		x, y = y, x%y
		c.u0, c.u1, u2 = c.u1, u2, c.u1+q*u2
		c.v0, c.v1, v2 = c.v1, v2, c.v1+q*v2
		c.odd = !c.odd
	}
	return c
}

// lessened returns what the steps make of x and y.
func (c cofactors) lessened(x, y natural) (big, little natural) {
	if c.odd {
		return difference(y, c.v0, x, c.u0), difference(x, c.u1, y, c.v1)
	}
	return difference(x, c.u0, y, c.v0), difference(y, c.v1, x, c.u1)
}

// difference returns u x - v y, which is not less than 0, nor greater than x or y; u and v are at most 2^32, so that what is carried is far from overflowing.
func difference(x natural, u uint64, y natural, v uint64) natural {
	z := make(natural, max(len(x), len(y)))
	carry := int64(0)
	for i := range z {
		gain, low := bits.Mul64(x.word(i), u)
		loss, due := bits.Mul64(y.word(i), v)
		low, borrow := bits.Sub64(low, due, 0)
		sum, more := bits.Add64(low, uint64(carry), 0)
		// A carry that is less than 0 counts as 2^64 too much in the sum.
		carry = int64(gain) - int64(loss) - int64(borrow) + int64(more) + carry>>63
		z[i] = sum
	}
	return z.trimmed()
}
