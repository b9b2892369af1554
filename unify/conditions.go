package unify

import (
	"cmp"
	"slices"

	"metewand/api"
	"metewand/internal/exact"
	"metewand/internal/failure"
)

// conditionsFor returns what the exponents have to meet with which the product of equations is the goals: reduced rows of numbers that, times the exponents, add up to the last number of the row. It returns the columns in which the rows begin, too: if one of these is the last one, there are no such exponents. The equations and the goals are given by the exponents of variables and bases.
func conditionsFor[T number[T]](one T, goals []T, equations [][]T) (grid[T], []int) {
	g := grid[T]{one: one}
	for i, goal := range goals {
		row := mapped(equations, func(exps []T) T { return exps[i] })
		g.rows = append(g.rows, append(row, goal))
	}
	return g, g.reduce()
}

// product returns the exponents with which the product of equations is the goals, those of equations that are a product of powers of earlier ones being 0. It throws ErrNone if there are none.
func product(goals []exact.Rat, equations [][]exact.Rat) []exact.Rat {
	g, leads := conditionsFor(exact.One(), goals, equations)
	if slices.Contains(leads, len(equations)) {
		failure.Throw(api.ErrNone)
	}
	exps := make([]exact.Rat, len(equations))
	for i, lead := range leads {
		exps[lead] = g.rows[i][len(equations)]
	}
	return exps
}

// condition is a row of numbers, and the equations where these are not 0.
type condition[T number[T]] struct {
	numbers   []T
	equations set
}

func (r condition[T]) goal() T { return r.numbers[len(r.numbers)-1] }

// conditions are those for the exponents of the equations that are open. Each has an open equation that is in no other one.
type conditions[T number[T]] struct {
	one  T
	open set
	rows []condition[T]

	// Memory that is used again and again, since a search makes conditions by the million.
	needs   []need
	changed []T            // the numbers of rows that are not those of other conditions
	next    *conditions[T] // those that are settled
}

// behind returns the conditions for the equations behind so many, each of which begins a row that says what its exponent is.
func behind[T number[T]](count int, g grid[T]) *conditions[T] {
	c := &conditions[T]{one: g.one}
	for _, numbers := range g.rows[count:] {
		row := condition[T]{numbers: numbers}
		for i, x := range numbers[:len(numbers)-1] {
			if !x.IsZero() {
				row.equations |= bit(i)
			}
		}
		c.open |= row.equations
		c.rows = append(c.rows, row)
	}
	return c
}

// need is a row whose goal is not 0, so that one of its open equations has an exponent that is not 0, either.
type need struct {
	row       int
	equations set
}

// needed returns the needs of all rows, those with the fewest equations first.
func (c *conditions[T]) needed() []need {
	c.needs = c.needs[:0]
	for i, row := range c.rows {
		if !row.goal().IsZero() {
			c.needs = append(c.needs, need{i, row.equations & c.open})
		}
	}
	slices.SortFunc(c.needs, func(a, b need) int {
		return cmp.Or(cmp.Compare(a.equations.size(), b.equations.size()), cmp.Compare(a.row, b.row))
	})
	return c.needs
}

// apart returns how many needs there are without a common equation, if they are taken one by one.
func apart(needs []need) int {
	count, taken := 0, set(0)
	for _, n := range needs {
		if n.equations&taken == 0 {
			taken |= n.equations
			count++
		}
	}
	return count
}

// metBy tells whether the conditions can be met with at most so many exponents that are not 0.
func (c *conditions[T]) metBy(most int) bool {
	needs := c.needed()
	switch {
	case len(needs) <= most: // each by the equation that is in no other row
		return true
	case apart(needs) > most:
		return false
	case most == 1:
		return c.metByOne(needs[0])
	}
	open := c.open
	for equation := range needs[0].equations.each() {
		// The exponents of those before it are 0 from here on.
		open &^= bit(equation)
		if c.settled(needs[0].row, equation, open).metBy(most - 1) {
			return true
		}
	}
	return false
}

// metByOne tells whether the numbers of one equation of a need are to each other as the goals are.
func (c *conditions[T]) metByOne(n need) bool {
	model := c.rows[n.row]
equations:
	for equation := range n.equations.each() {
		for _, row := range c.rows {
			if !row.numbers[equation].Times(model.goal()).Minus(row.goal().Times(model.numbers[equation])).IsZero() {
				continue equations
			}
		}
		return true
	}
	return false
}

// settled returns the conditions for equations that stay open, once the exponent of another one is what a row says that it is. They are good until others are settled.
func (c *conditions[T]) settled(row, equation int, open set) *conditions[T] {
	if c.next == nil {
		c.next = &conditions[T]{one: c.one}
	}
	rest := c.next
	rest.open, rest.rows, rest.changed = open, rest.rows[:0], rest.changed[:0]
	used := c.rows[row]
	used.equations &= open
	inverse := c.one.Over(used.numbers[equation])
	for i, other := range c.rows {
		if i == row {
			continue
		}
		if other.equations&bit(equation) != 0 {
			size := len(rest.changed)
			rest.changed = append(rest.changed, other.numbers...)
			other.numbers = rest.changed[size:len(rest.changed):len(rest.changed)]
			other.lessen(used, other.numbers[equation].Times(inverse))
		}
		rest.rows = append(rest.rows, other)
	}
	return rest
}

// lessen subtracts a multiple of another row, as far as it has equations of this one.
func (r *condition[T]) lessen(other condition[T], times T) {
	goal := len(r.numbers) - 1
	r.numbers[goal] = r.numbers[goal].Minus(times.Times(other.numbers[goal]))
	for i := range other.equations.each() {
		r.numbers[i] = r.numbers[i].Minus(times.Times(other.numbers[i]))
		r.equations |= bit(i)
		if r.numbers[i].IsZero() {
			r.equations &^= bit(i)
		}
	}
}
