package whole

// commonDivisor returns the greatest common divisor of a and b, and the factors x and y that Gcd promises.
func commonDivisor(a, b string) [3]string {
	if valid(a, b) == short {
		g, x, y := smallOf(a).gcd(smallOf(b))
		return [3]string{g.text(), x.text(), y.text()}
	}
	g, x, y := numberOf(a).gcd(numberOf(b))
	return [3]string{g.text(), x.text(), y.text()}
}

// combined is a remainder of Euclid's algorithm for s and t: value is s x + t y.
type combined struct{ value, x, y small }

func (c combined) less(times small, d combined) combined {
	return combined{c.value - times*d.value, c.x - times*d.x, c.y - times*d.y}
}

func (c combined) negated() combined {
	return combined{-c.value, -c.x, -c.y}
}

func (s small) gcd(t small) (g, x, y small) {
	if s == 0 && t == 0 {
		return 0, 0, 0
	}
	last, next := combined{s, 1, 0}, combined{t, 0, 1}
	for next.value != 0 {
		last, next = next, last.less(last.value/next.value, next)
	}
	if last.value < 0 {
		last = last.negated()
	}
	if t == 0 {
		return last.value, last.x, 0
	}
	// Now next is 0, and its x is t/g but for the sign: the least step by which x can change.
	if next.x < 0 {
		next = next.negated()
	}
	steps, _ := last.x.floored(next.x)
	last = last.less(steps, next)
	return last.value, last.x, last.y
}

// gcd finds x alone on the way; y follows from it by a division.
func (n number) gcd(m number) (g, x, y number) {
	if len(m.limbs) == 0 {
		return number{limbs: n.limbs}, signed(n.sign, natural{1}), number{}
	}
	e := newEuclid(n.limbs, m.limbs)
	e.divide()
	for len(e.little) > 0 {
		e.step()
	}
	g = number{limbs: e.big}
	_, x = signed(e.minus.with(n.sign), e.ofBig.trimmed()).floored(number{limbs: e.ofLittle.trimmed()})
	y, _ = g.minus(n.times(x)).cut(m)
	return g, x, y
}
