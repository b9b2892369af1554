package whole

// euclid is two numbers that follow each other in Euclid's algorithm for x and y, and how many times x is in each of them, if multiples of y do not count. One of these two multiples is taken with a minus sign: that of big if minus is true, otherwise that of little.
type euclid struct {
	minus           sign
	big, little     natural
	ofBig, ofLittle natural    // of one length, with leading zeros
	rooms           [2]natural // for big and little in step
}

func newEuclid(x, y natural) *euclid {
	// No multiple gets greater than y, and no number is greater behind the first division.
	size := len(y) + 1
	return &euclid{
		big: x, little: y,
		ofBig: natural{1}.copied(size), ofLittle: make(natural, size),
		rooms: [2]natural{make(natural, size), make(natural, size)},
	}
}

// divide does one step of the algorithm.
func (e *euclid) divide() {
	quotient, rest := e.big.over(e.little)
	e.big, e.little = e.little, rest
	e.ofBig.gain(multiplied(quotient, e.ofLittle.trimmed()))
	e.ofBig, e.ofLittle = e.ofLittle, e.ofBig
	e.minus = e.minus.opposite()
}

// step does as many steps of the algorithm at once as the first digits of both numbers surely tell (Lehmer's way), otherwise one. Big is greater than little.
func (e *euclid) step() {
	x, y := e.leading()
	c := foresee(x, y)
	if c.v0 == 0 {
		e.divide()
		return
	}
	size := len(e.big)
	big, little := e.big.laid(e.rooms[0][:size]), e.little.laid(e.rooms[1][:size])
	c.lessen(big, little)
	e.big, e.little = big.trimmed(), little.trimmed()
	c.enlarge(e.ofBig, e.ofLittle)
	e.minus = e.minus.with(c.odd)
}

// leading returns the first 18 digits of big, and the digits of little at the same places.
func (e *euclid) leading() (x, y int64) {
	top := len(e.big) - 1
	free := limbDigits - e.big[top:].digits()
	up, down := int64(tenTo(free)), int64(tenTo(limbDigits-free))
	lead := func(n natural) int64 {
		return (n.limb(top)*limbBase+n.limb(top-1))*up + n.limb(top-2)/down
	}
	return lead(e.big), lead(e.little)
}

// cofactors say what some steps of the algorithm make of x and y: u0 x - v0 y, and v1 y - u1 x; both with the other sign if odd is true.
type cofactors struct {
	u0, v0, u1, v1 int64
	odd            sign
}

// foresee does the steps with numbers of which 18 digits are known, as long as all that begin with these have the same quotients (Collins' condition). Then all cofactors are less than limbBase. If v0 is 0, there is no such step.
func foresee(x, y int64) cofactors {
	c := cofactors{u1: 1, odd: true}
	u2, v2 := int64(0), int64(1)
	for y >= v2 && x-y >= c.v1+v2 {
		q := x / y
		x, y = y, x-q*y
		c.u0, c.u1, u2 = c.u1, u2, c.u1+q*u2
		c.v0, c.v1, v2 = c.v1, v2, c.v1+q*v2
		c.odd = c.odd.opposite()
	}
	return c
}

// lessen applies the cofactors to numbers of one length, which get less.
func (c cofactors) lessen(x, y natural) {
	if c.odd.negative() {
		c.u0, c.v0, c.u1, c.v1 = -c.u0, -c.v0, -c.u1, -c.v1
	}
	carryX, carryY := int64(0), int64(0)
	for i := range len(x) {
		a, b := int64(x[i]), int64(y[i])
		x[i], carryX = settled(c.u0*a - c.v0*b + carryX)
		y[i], carryY = settled(c.v1*b - c.u1*a + carryY)
	}
}

// enlarge applies the cofactors to multiples, which have different signs, so that their amounts add up.
func (c cofactors) enlarge(x, y natural) {
	carryX, carryY := int64(0), int64(0)
	for i := range len(x) {
		a, b := int64(x[i]), int64(y[i])
		x[i], carryX = settled(c.u0*a + c.v0*b + carryX)
		y[i], carryY = settled(c.u1*a + c.v1*b + carryY)
	}
}

// settled returns the limb and the carry, which may be less than 0, that stand for t.
func settled(t int64) (limb uint32, carry int64) {
	carry = t / limbBase
	t -= carry * limbBase
	if t < 0 {
		return uint32(t + limbBase), carry - 1
	}
	return uint32(t), carry
}
