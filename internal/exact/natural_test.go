package exact

import (
	"testing"

	"metewand/internal/byhand"
)

// naturals returns numbers of many lengths, with words at which carries, borrows and guesses go wrong easily.
func naturals(seed byhand.Chance) []natural {
	var all []natural
	for size := range 7 {
		for range 25 {
			x := make(natural, size)
			for i := range x {
				words := [...]uint64{0, 0, 1, 1<<32 - 1, 1 << 32, 1 << 63, 1<<63 - 1, ^uint64(0) - 1, ^uint64(0), uint64(seed), uint64(seed) >> 7}
				x[i] = words[seed.Below(len(words))]
			}
			all = append(all, x.trimmed())
		}
	}
	for _, digits := range []int{1, 18, 19, 20, 38, 39, 57, 100, 400, 700} {
		all = append(all, naturalOf(byhand.Amount(seed.Number(digits))))
	}
	return all
}

func TestText(t *testing.T) {
	seed := byhand.Chance(1)
	for digits := 1; digits < 500; digits += 1 + digits/7 {
		s := byhand.Amount(seed.Number(digits))
		if got := naturalOf(s).text(); got != s {
			t.Errorf("%s is %s", byhand.Preview(s), byhand.Preview(got))
		}
	}
	for _, s := range []string{"0", "9", "9999999999999999999", "10000000000000000000", "18446744073709551615", "18446744073709551616", "10000000000000000000000000000000000000000"} {
		if got := naturalOf(s).text(); got != s {
			t.Error(s, got)
		}
	}
}

func TestNaturals(t *testing.T) {
	all := naturals(2)
	for i, x := range all {
		for j, y := range all {
			a, b := x.text(), y.text()
			c := x.compare(y)
			if c != byhand.Compare(a, b) || (c == 0) != (a == b) {
				t.Fatalf("%s and %s: %d", a, b, c)
			}
			if got := x.plus(y).text(); got != byhand.Add(a, b) {
				t.Fatalf("%s + %s = %s", a, b, got)
			}
			if c >= 0 && x.minus(y).text() != byhand.Add(a, byhand.Minus(b)) {
				t.Fatalf("%s - %s = %s", a, b, x.minus(y).text())
			}
			if (i+j)%5 == 0 && x.times(y).text() != byhand.Mul(a, b) {
				t.Fatalf("%s * %s = %s", a, b, x.times(y).text())
			}
		}
	}
}

// TestOver has words at which a guess is too large at first, by 1 or by 2, or after a look at a third one.
func TestOver(t *testing.T) {
	all := naturals(3)
	for i, x := range all {
		for j, y := range all {
			if len(y) == 0 {
				continue
			}
			z := x.times(all[(i*7+j)%len(all)]).plus(y)
			quotient, rest := z.over(y)
			if quotient.times(y).plus(rest).compare(z) != 0 || rest.compare(y) >= 0 {
				t.Fatalf("%s by %s: %s and %s", z.text(), y.text(), quotient.text(), rest.text())
			}
		}
	}
	words := []uint64{0, 1, 1 << 62, 1<<63 - 1, 1 << 63, 1<<63 + 1, ^uint64(0) - 1, ^uint64(0)}
	pick := func(n, size int) natural {
		x := make(natural, size)
		for i := range x {
			x[i] = words[n%len(words)]
			n /= len(words)
		}
		return x.trimmed()
	}
	for n := range 4096 {
		for m := 7; m < 512; m += 3 {
			x, y := pick(n, 4), pick(m, 3)
			if len(y) == 0 {
				continue
			}
			quotient, rest := x.over(y)
			if quotient.times(y).plus(rest).compare(x) != 0 || rest.compare(y) >= 0 {
				t.Fatalf("%s by %s: %s and %s", x.text(), y.text(), quotient.text(), rest.text())
			}
		}
	}
}

// plainDivisor is Euclid's algorithm, step by step.
func plainDivisor(x, y natural) natural {
	for len(y) > 0 {
		_, rest := x.over(y)
		x, y = y, rest
	}
	return x
}

func TestDivisor(t *testing.T) {
	all := naturals(4)
	for i, x := range all {
		for j, y := range all {
			common := all[(i*5+j)%len(all)]
			x, y := x.times(common), y.times(common)
			if got, want := x.gcd(y), plainDivisor(x, y); got.compare(want) != 0 {
				t.Fatalf("%s and %s: %s, not %s", x.text(), y.text(), got.text(), want.text())
			}
		}
	}
	// Neighbours of Fibonacci's sequence need the most steps.
	last, next := natural{1}, natural{1}
	for range 900 {
		if !next.gcd(last).isOne() || !last.gcd(next).isOne() {
			t.Fatal(last.text(), next.text())
		}
		last, next = next, last.plus(next)
	}
}

// TestForesee: several steps are done at once, and they lead to numbers that plain steps lead to.
func TestForesee(t *testing.T) {
	seed := byhand.Chance(5)
	steps := 0
	for range 300 {
		x, y := naturalOf(byhand.Amount(seed.Number(60+seed.Below(4)))), naturalOf(byhand.Amount(seed.Number(60)))
		if x.compare(y) < 0 {
			x, y = y, x
		}
		c := foresee(leading(x, y))
		if c.v0 == 0 {
			continue
		}
		steps++
		big, little := c.lessened(x, y)
		for len(y) > 0 && (x.compare(big) != 0 || y.compare(little) != 0) {
			_, rest := x.over(y)
			x, y = y, rest
		}
		if len(y) == 0 || max(c.u0, c.v0, c.u1, c.v1) > 1<<32 {
			t.Error(c, big.text(), little.text())
		}
	}
	if steps < 100 {
		t.Error(steps)
	}
}

// TestNaturalRoot has squares, and their neighbours.
func TestNaturalRoot(t *testing.T) {
	one := natural{1}
	for _, x := range naturals(6) {
		square := x.times(x)
		for _, y := range []natural{x, square, square.plus(one), square.plus(x).plus(x), square.plus(x).plus(x).plus(one)} {
			root := y.root()
			next := root.plus(one)
			if root.times(root).compare(y) > 0 || next.times(next).compare(y) <= 0 {
				t.Fatalf("%s: %s", y.text(), root.text())
			}
		}
		if square.root().compare(x) != 0 {
			t.Fatalf("%s: %s", square.text(), square.root().text())
		}
	}
}

// TestUnchanged: no operation changes the words of a number.
func TestUnchanged(t *testing.T) {
	x, y := naturalOf("123456789012345678901234567890123456789012345678901234567890"), naturalOf("98765432109876543210987654321098765432109876543210")
	a, b := x.text(), y.text()
	x.plus(y)
	x.minus(y)
	x.times(y)
	x.over(y)
	x.gcd(y)
	x.scaled(7, 7)
	x.shifted(7)
	x.root()
	if x.text() != a || y.text() != b {
		t.Error(x.text(), y.text())
	}
}
