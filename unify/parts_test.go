package unify

import (
	"slices"
	"strconv"
	"testing"

	"metewand/api"
	"metewand/internal/byhand"
	"metewand/internal/exact"
)

func whole(n int) exact.Rat { return exact.Of(api.Rat{Num: strconv.Itoa(n), Den: "1"}) }

// somePrime is the first prime of the search.
const somePrime prime = 1<<63 - 25

// table returns random rows, of which some are sums of multiples of others.
func table(seed *byhand.Chance, height, width int) [][]int {
	rows := make([][]int, height)
	some := 1 + seed.Below(3)
	for i := range rows {
		rows[i] = make([]int, width)
		for j := range rows[i] {
			if seed.Below(some) == 0 {
				rows[i][j] = seed.Below(7) - 3
			}
		}
		if i > 1 && seed.Below(3) == 0 {
			for j := range rows[i] {
				rows[i][j] = 2*rows[i-1][j] - rows[i-2][j]
			}
		}
	}
	return rows
}

// reducedOf returns a table as reduced rows, exactly and modulo a prime.
func reducedOf(rows [][]int) (grid[exact.Rat], []int, grid[remainder], []int) {
	a, b := grid[exact.Rat]{one: whole(1)}, grid[remainder]{one: somePrime.small(1)}
	for _, row := range rows {
		a.rows = append(a.rows, mapped(row, whole))
		b.rows = append(b.rows, mapped(row, func(n int) remainder { return somePrime.whole(strconv.Itoa(n)) }))
	}
	leads, others := a.reduce(), b.reduce()
	return a, leads, b, others
}

// TestReduce: rows begin with a 1 that is alone in its column, further and further to the right; each row that was there is a sum of multiples of them.
func TestReduce(t *testing.T) {
	seed := byhand.Chance(1)
	for range 300 {
		rows := table(&seed, seed.Below(6), 1+seed.Below(6))
		a, leads, b, others := reducedOf(rows)
		if !slices.Equal(leads, others) || len(a.rows) != len(leads) || len(b.rows) != len(leads) || !slices.IsSorted(leads) {
			t.Fatal(rows, leads, others)
		}
		for i, lead := range leads {
			for j := range leads {
				if want := map[bool]string{true: "1", false: "0"}[i == j]; a.rows[j][lead].Text() != want {
					t.Fatal(rows, a.rows)
				}
			}
			if slices.ContainsFunc(a.rows[i][:lead], func(x exact.Rat) bool { return !x.IsZero() }) {
				t.Fatal(rows, a.rows)
			}
			for j, x := range a.rows[i] {
				plain, _ := x.Plain()
				if somePrime.remainder(plain) != b.rows[i][j] {
					t.Fatal(rows, a.rows, b.rows)
				}
			}
		}
		for _, row := range rows {
			rest := mapped(row, whole)
			for i, lead := range leads {
				lessen(rest, a.rows[i], rest[lead])
			}
			if slices.ContainsFunc(rest, func(x exact.Rat) bool { return !x.IsZero() }) {
				t.Fatal(rows, row, rest)
			}
		}
	}
}

// fewest returns with how few exponents that are not 0 conditions can be met, found with all sets of columns; -1 if they cannot be.
func fewest(g grid[remainder]) int {
	width := len(g.rows[0]) - 1
	best := -1
	for chosen := range set(1) << width {
		part := grid[remainder]{one: g.one}
		for _, row := range g.rows {
			var some []remainder
			for i := range chosen.each() {
				some = append(some, row[i])
			}
			part.rows = append(part.rows, append(some, row[width]))
		}
		size := chosen.size()
		if leads := part.reduce(); !slices.Contains(leads, size) && (best < 0 || size < best) {
			best = size
		}
	}
	return best
}

// TestMetBy compares with all sets of equations, with exact numbers and with remainders.
func TestMetBy(t *testing.T) {
	seed := byhand.Chance(2)
	sizes := map[int]int{}
	for i := range 5000 {
		rows := table(&seed, 1+seed.Below(8), 2+seed.Below(9))
		if i%3 == 0 {
			rows = table(&seed, 3+seed.Below(6), 8+seed.Below(4))
		}
		a, leads, b, _ := reducedOf(rows)
		if len(leads) == 0 || slices.Contains(leads, len(rows[0])-1) {
			continue
		}
		best := fewest(b)
		sizes[best]++
		for most := -1; most < len(rows[0]); most++ {
			if got, other := behind(0, a).metBy(most), behind(0, b).metBy(most); got != (most >= best) || other != got {
				t.Fatal(rows, best, most, got, other)
			}
		}
	}
	for size := range 6 {
		if sizes[size] < 5 {
			t.Error(sizes)
		}
	}
}

// TestSettled: the equation is in no row any more, the others are right about where they have numbers, and what was settled stays as it was.
func TestSettled(t *testing.T) {
	seed := byhand.Chance(4)
	for range 300 {
		_, leads, g, _ := reducedOf(table(&seed, 2+seed.Below(5), 6+seed.Below(5)))
		if len(leads) == 0 {
			continue
		}
		c := behind(0, g)
		before := mapped(c.rows, func(row condition[remainder]) []remainder { return slices.Clone(row.numbers) })
		row := seed.Below(len(c.rows))
		equations := slices.Collect(c.rows[row].equations.each())
		if len(equations) == 0 {
			continue
		}
		equation := equations[seed.Below(len(equations))]
		open := c.open &^ bit(equation)
		for range 2 {
			rest := c.settled(row, equation, open)
			if len(rest.rows) != len(c.rows)-1 || rest.open != open {
				t.Fatal(rest)
			}
			for i, other := range slices.Delete(slices.Clone(before), row, row+1) {
				want := slices.Clone(other)
				lessen(want, before[row], other[equation].Over(before[row][equation]))
				got := rest.rows[i]
				for j, x := range want {
					if j < len(want)-1 && open&bit(j) == 0 {
						continue
					}
					if got.numbers[j] != x || j < len(want)-1 && (got.equations&bit(j) != 0) == x.IsZero() {
						t.Fatal(before, row, equation, got)
					}
				}
			}
		}
		for i, numbers := range before {
			if !slices.Equal(c.rows[i].numbers, numbers) {
				t.Fatal(i, numbers)
			}
		}
	}
}

func TestApart(t *testing.T) {
	for want, sets := range [][]set{{}, {6, 2, 4}, {1, 2, 7}, {1, 2, 4, 8 + 4}} {
		if got := apart(mapped(sets, func(s set) need { return need{equations: s} })); got != want {
			t.Error(sets, got)
		}
	}
}

func TestEach(t *testing.T) {
	s := bit(39) | bit(7) | bit(0)
	if got := slices.Collect(s.each()); !slices.Equal(got, []int{0, 7, 39}) || s.size() != 3 {
		t.Error(got)
	}
	for i := range s.each() {
		if i > 0 {
			t.Error(i)
		}
		break
	}
}

// TestLonger: lists that get a number more do not share their end.
func TestLonger(t *testing.T) {
	s := search{equations: make([][]remainder, 5)}
	list := append(make([]int, 0, 8), 0, 2)
	got := slices.Collect(s.longer(list))
	if len(got) != 2 || !slices.Equal(got[0], []int{0, 2, 3}) || !slices.Equal(got[1], []int{0, 2, 4}) {
		t.Error(got)
	}
	if got := slices.Collect(s.longer(nil)); len(got) != 5 || !slices.Equal(got[4], []int{4}) {
		t.Error(got)
	}
	if got := slices.Collect(s.longer([]int{4})); len(got) != 0 {
		t.Error(got)
	}
	for list := range s.longer(nil) {
		if list[0] > 0 {
			t.Error(list)
		}
		break
	}
}

// TestLeast: of all lists with the answer yes, the least one counts, whichever goroutine ends first; and a fault is not lost.
func TestLeast(t *testing.T) {
	var questions []question
	for i := range 40 {
		questions = append(questions, question{[]int{40 - i, 7}, func(most int) bool { return most == 3 && i%3 == 0 }})
	}
	for range 20 {
		if got := least(questions, 5); !slices.Equal(got, []int{1, 7}) {
			t.Fatal(got)
		}
	}
	if got := least(questions, 4); got != nil || least(nil, 1) != nil {
		t.Error(got)
	}
	defer func() {
		if recover() == nil {
			t.Error("no fault")
		}
	}()
	least([]question{{[]int{1}, func(int) bool { panic("x") }}}, 1)
}

// TestRemainders compares with all numbers, modulo a small prime, and with division by hand, modulo a large one.
func TestRemainders(t *testing.T) {
	for a := range 13 {
		for b := range 13 {
			x, y := prime(13).small(uint64(a)), prime(13).small(uint64(b))
			if x.Minus(y).value != uint64((a-b+13)%13) || x.Times(y).value != uint64(a*b%13) || x.IsZero() != (a == 0) {
				t.Error(a, b)
			}
			if b > 0 && x.Over(y).Times(y) != x {
				t.Error(a, b, x.Over(y))
			}
		}
	}
	seed := byhand.Chance(3)
	p := strconv.FormatUint(uint64(somePrime), 10)
	for range 200 {
		a, b := seed.Number(1+seed.Below(60)), seed.Number(1+seed.Below(60))
		x, y := somePrime.whole(a), somePrime.whole(b)
		for want, got := range map[string]remainder{a: x, byhand.Add(a, byhand.Minus(b)): x.Minus(y), byhand.Mul(a, b): x.Times(y)} {
			_, rest := byhand.Divide(byhand.Amount(want), p)
			if byhand.Negative(want) && rest != "0" {
				rest = byhand.Add(p, byhand.Minus(rest))
			}
			if strconv.FormatUint(got.value, 10) != rest || got.prime != uint64(somePrime) {
				t.Fatal(a, b, got, rest)
			}
		}
		if !y.IsZero() && x.Over(y).Times(y) != x {
			t.Fatal(a, b)
		}
	}
	if !somePrime.dividesBelow(api.Rat{Num: "1", Den: byhand.Mul(p, "77")}) || somePrime.dividesBelow(api.Rat{Num: p, Den: byhand.Add(p, "1")}) {
		t.Error(p)
	}
}

func TestPrimes(t *testing.T) {
	// The greatest primes below 2^63, as tables have them.
	want := []uint64{25, 165, 259, 301, 375, 387, 391, 409, 457, 471}
	for p := range primes() {
		if got := uint64(1<<63) - uint64(p); got != want[0] {
			t.Fatal(got, want)
		}
		want = want[1:]
		if len(want) == 0 {
			break
		}
	}
	composite := map[int]bool{}
	for i := 3; i < 20000; i += 2 {
		for j := 3 * i; j < 20000 && !composite[i]; j += 2 * i {
			composite[j] = true
		}
		if i > 37 && isPrime(uint64(i)) == composite[i] {
			t.Error(i)
		}
	}
	// These pass for many of the bases.
	for _, n := range []uint64{2047, 1373653, 25326001, 3215031751, 2152302898747, 3474749660383, 341550071728321, 3825123056546413051, 4611686014132420609} {
		if isPrime(n) {
			t.Error(n)
		}
	}
}

// TestDigits: no determinant of so many equations has more digits.
func TestDigits(t *testing.T) {
	rats := func(l ...string) []api.Rat {
		return mapped(l, func(num string) api.Rat { return api.Rat{Num: num, Den: "1"} })
	}
	half := func(base string) api.Power { return api.Power{Base: base, Exp: api.Rat{Num: "-3", Den: "2"}} }
	s := valid(3, []api.UnifyEq{
		{Exps: rats("0", "0", "0")},
		{Exps: rats("-3", "4", "5")},
		{Exps: rats("0", "999", "0"), Dim: []api.Power{half("m"), half("s")}},
		{Exps: rats("1", "0", "0")},
	})
	// The sums are 0, 12, 999 and 1; the third one is (999 + 3/2) 2 with one base, and (999 + 3) 4 with both.
	for _, x := range []struct {
		bases []string
		size  int
		want  int
	}{{nil, 0, 1}, {nil, 1, 3}, {nil, 2, 5}, {nil, 4, 5}, {[]string{"s"}, 1, 4}, {[]string{"s"}, 4, 5}, {[]string{"m", "s"}, 2, 5}} {
		if got := s.digits(x.bases, x.size); got != x.want {
			t.Error(x, got)
		}
	}
}

// TestBefore: shorter lists come first, then lesser ones.
func TestBefore(t *testing.T) {
	order := [][]int{{9}, {0, 1}, {0, 2}, {1, 2}, {0, 1, 2}}
	for i, a := range order {
		for j, b := range order {
			if before(a, b) != (i < j) {
				t.Error(a, b)
			}
		}
	}
}

// TestShortest has a search that is told how long a list may be.
func TestShortest(t *testing.T) {
	one := api.Rat{Num: "1", Den: "1"}
	x := func(base string) api.UnifyEq {
		return api.UnifyEq{Exps: []api.Rat{one}, Dim: []api.Power{{Base: base, Exp: one}}}
	}
	s := valid(1, []api.UnifyEq{x("m"), x("m"), x("s"), x("s")}).modulo(somePrime, []string{"m", "s"})
	for most, want := range [][]int{nil, nil, {0, 2}, {0, 2}, {0, 2}} {
		if got := s.shortest(most); !slices.Equal(got, want) {
			t.Error(most, got)
		}
	}
}
