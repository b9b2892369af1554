package whole

import (
	"strings"
	"testing"
)

// TestParts: a product that is found side by side is that of the rows.
func TestParts(t *testing.T) {
	for _, digits := range []int{1, 150, 207, 208, 217, 280, 300, 400} {
		for _, x := range []string{strings.Repeat("9", digits), "1" + strings.Repeat("0", digits-1), strings.Repeat("7000000003", digits/10+1)} {
			for _, y := range []string{strings.Repeat("9", 400), strings.Repeat("123456789", 30)} {
				a, b := naturalOf(x), naturalOf(y)
				rows := a.timesRows(b)
				if a.timesParts(b).compare(rows) != 0 || a.times(b).compare(rows) != 0 || b.timesParts(a).compare(rows) != 0 {
					t.Errorf("product of %d and %d digits", digits, len(y))
				}
			}
		}
	}
}

// TestMultiplied: the product of any number of factors.
func TestMultiplied(t *testing.T) {
	two, three := natural{2}, natural{3}
	for want, got := range map[string]natural{"1": multiplied(), "2": multiplied(two), "6": multiplied(two, three), "12": multiplied(two, three, two), "0": multiplied(two, nil)} {
		if got.text() != want {
			t.Error(got.text(), want)
		}
	}
}

// TestLongDivision has limbs at which a guess is too large at first, by 1 or by 2, or after a look at a third limb.
func TestLongDivision(t *testing.T) {
	limbs := []uint32{0, 1, 2, 3, limbBase / 4, limbBase/2 - 1, limbBase / 2, limbBase/2 + 1, limbBase - 2, limbBase - 1}
	pick := func(n, size int) natural {
		x := make(natural, size)
		for i := range x {
			x[i] = limbs[n%len(limbs)]
			n /= len(limbs)
		}
		return x.trimmed()
	}
	for n := range 10000 {
		for m := 7; m < 1000; m += 7 {
			x, y := pick(n, 4), pick(m, 3)
			if len(y) == 0 {
				continue
			}
			q, r := x.over(y)
			if multiplied(q, y).plus(r).compare(x) != 0 || r.compare(y) >= 0 {
				t.Fatalf("%s by %s: %s and %s", x.text(), y.text(), q.text(), r.text())
			}
		}
	}
}

// TestForesee: several steps are done at once, and the cofactors belong to all numbers that begin with the digits that are known.
func TestForesee(t *testing.T) {
	for _, x := range [][2]string{{"987654321987654321000000000", "123456789123456789999999999"}, {"999999999999999999999999999", "618033988749894848204586834"}, {"100000000000000000000000000", "99999999999999999000000000"}} {
		e := newEuclid(naturalOf(x[0]), naturalOf(x[1]))
		a, b := e.leading()
		c := foresee(a, b)
		if c.v0 == 0 || max(c.u0, c.v0, c.u1, c.v1) >= limbBase {
			t.Error(x, c)
		}
		plain := newEuclid(naturalOf(x[0]), naturalOf(x[1]))
		e.step()
		for range 60 {
			if plain.big.compare(e.big) == 0 && plain.little.compare(e.little) == 0 {
				break
			}
			plain.divide()
		}
		if plain.big.compare(e.big) != 0 || plain.ofBig.trimmed().compare(e.ofBig.trimmed()) != 0 || plain.ofLittle.trimmed().compare(e.ofLittle.trimmed()) != 0 || plain.minus != e.minus {
			t.Error(x, e.big.text(), e.little.text(), e.ofBig.trimmed().text(), e.minus)
		}
	}
}

// TestDigitsIn: the digits end where their reader does, and where the number does.
func TestDigitsIn(t *testing.T) {
	x := naturalOf("123456789012345678901234567890")
	read := 0
	for digit := range x.digitsIn(10) {
		if digit != (30-read)%10 {
			t.Error(read, digit)
		}
		if read++; read == 4 {
			break
		}
	}
	for range x.digitsIn(10) {
		read++
	}
	if read != 34 || x.text() != "123456789012345678901234567890" {
		t.Error(read, x.text())
	}
}

// TestPrimesEnd: least finds the first number that fits, also if this is the one at which it begins.
func TestPrimesEnd(t *testing.T) {
	if n := least(3, func(n int) bool { return n >= 3 }); n != 3 {
		t.Error(n)
	}
	if n := least(small(3), func(n small) bool { return n*n > 50 }); n != 8 {
		t.Error(n)
	}
}
