package ratio

func (n number) plus(m number) number {
	if n.short() && m.short() {
		return lowest(add(mul(n.Num, m.Den), mul(m.Num, n.Den)), mul(n.Den, m.Den))
	}
	return n.mixed().plusLong(m.mixed()).improper()
}

func (n number) minus(m number) number {
	return n.plus(m.negated())
}

// plusLong adds numbers whose products across might be too long, although the sum is not. Its parts are less than 1, and in lowest terms, as is that of the result.
//
// With the common divisor g of both denominators g i and g j, the parts have the sum t/(g i j), where t is the sum of x.Num j and y.Num i. What t has in common with this denominator is in g, and is found by the remainders of t's summands. The denominator is computed first: as soon as it is known not to be too long, nothing else is, unless the result is.
func (x mixed) plusLong(y mixed) mixed {
	g := gcd(x.Den, y.Den)
	i, j := divided(x.Den, g), divided(y.Den, g)
	spare := gcd(sub(remainder(x.Num, j, g), sub(g, remainder(y.Num, i, g))), g)
	den := mul(i, divided(y.Den, spare))

	num, rest := proportion(x.Num, j, spare)
	other, _ := proportion(y.Num, i, spare)
	if rest != "0" {
		other = add(other, "1") // t is a multiple of spare, and so is the sum of both rests
	}
	if lack := sub(den, other); order(num, lack) >= 0 {
		x.floor = add(x.floor, "1")
		num = sub(num, lack)
	} else {
		num = add(num, other)
	}
	return mixed{add(x.floor, y.floor), of(num, den)}
}

// remainder returns what remains of a b divided by c; the product of b and c is not too long.
func remainder(a, b, c string) string {
	_, rest := floor(a, c)
	_, rest = floor(mul(rest, b), c)
	return rest
}

// proportion returns a b divided by c, rounded down, and what remains; neither this nor the product of b and c is too long.
func proportion(a, b, c string) (quotient, rest string) {
	times, rest := floor(a, c)
	quotient, rest = floor(mul(rest, b), c)
	return add(mul(times, b), quotient), rest
}
