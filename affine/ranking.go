package affine

// ranking is things in an order. Those that are equal in it are in that in which they were put.
type ranking[T any] struct {
	things  []T
	compare func(a, b T) int
}

// put always wants more, so that an iterator may call it.
func (r *ranking[T]) put(x T) bool {
	place := len(r.things)
	for place > 0 && r.compare(x, r.things[place-1]) < 0 {
		place--
	}
	r.things = append(r.things, x)
	copy(r.things[place+1:], r.things[place:])
	r.things[place] = x
	return true
}

// first returns so many things, or all if there are no more.
func (r *ranking[T]) first(many int) []T {
	size := min(many, len(r.things))
	return r.things[:size:size]
}
