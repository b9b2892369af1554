package ratio

// compare returns -1, 0 or 1 if n is less than m, equal to it, or greater; they need not be in lowest terms.
func (n number) compare(m number) int {
	switch {
	case n == m:
		return 0
	case n.Den == m.Den:
		return order(n.Num, m.Num)
	case n.short() && m.short():
		return order(mul(n.Num, m.Den), mul(m.Num, n.Den))
	}
	return n.compareLong(m)
}

// compareLong compares the terms of both continued fractions one after the other, since products across might be too long. Of the inverses, the greater one is that of the lesser number.
func (n number) compareLong(m number) int {
	for {
		x, y := n.mixed(), m.mixed()
		if c := order(x.floor, y.floor); c != 0 {
			return c
		}
		if x.isZero() || y.isZero() {
			return order(x.Num, y.Num)
		}
		n, m = y.inverse(), x.inverse()
	}
}
