package unify

import "slices"

// number is what rows can be reduced with: exact numbers, or remainders.
type number[T any] interface {
	Minus(T) T
	Times(T) T
	Over(T) T
	IsZero() bool
}

// grid is rows of as many numbers each.
type grid[T number[T]] struct {
	one  T
	rows [][]T
}

// reduce adds multiples of rows to other ones, and exchanges rows, until each begins, behind zeros, with a 1 that is alone in its column, and further to the right than that of the row above. Rows of zeros are left out. It returns the columns of these ones, which are the columns that are no sums of multiples of those before them.
func (g *grid[T]) reduce() []int {
	var leads []int
	width := 0 // also if there are no rows
	for _, row := range g.rows {
		width = max(width, len(row))
	}
	for column := range width {
		if g.lead(len(leads), column) {
			leads = append(leads, column)
		}
	}
	g.rows = g.rows[:len(leads)]
	return leads
}

// lead makes a row, from a place on, one that leads at a column, and brings it to this place; it tells whether there is one.
func (g *grid[T]) lead(place, column int) bool {
	found := slices.IndexFunc(g.rows[place:], func(row []T) bool { return !row[column].IsZero() })
	if found < 0 {
		return false
	}
	g.rows[place], g.rows[place+found] = g.rows[place+found], g.rows[place]
	leader := g.rows[place]
	inverse := g.one.Over(leader[column])
	for i, x := range leader {
		leader[i] = x.Times(inverse)
	}
	for i, row := range g.rows {
		if i != place {
			lessen(row, leader, row[column])
		}
	}
	return true
}

// lessen subtracts a multiple of another row from a row.
func lessen[T number[T]](row, other []T, times T) {
	if times.IsZero() {
		return
	}
	for i, x := range other {
		if !x.IsZero() {
			row[i] = row[i].Minus(times.Times(x))
		}
	}
}
