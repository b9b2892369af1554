package unify

import (
	"iter"
	"slices"
	"sync"

	"metewand/api"
	"metewand/internal/failure"
)

// search looks for equations that contradict each other.
type search struct {
	one       remainder
	variables int
	left      int           // how many bases there are of which one may be left
	equations [][]remainder // the exponents of each one: of the variables, and then of these bases
}

// modulo returns the search among the equations of a system, all numbers of which have remainders.
func (s system) modulo(p prime, left []string) search {
	exponents := func(x equation) []remainder { return numbers(x, left, p.remainder) }
	return search{p.small(1), s.variables, len(left), mapped(s.equations, exponents)}
}

// shortest returns the shortest list of equations that contradict each other, and of several the least one; none if it has more than so many numbers.
func (s search) shortest(most int) []int {
	questions := s.questions(nil)
	size := 1
	// All that are shorter are asked for at once: after the first prime, there are none as a rule.
	if least(questions, most-1) == nil {
		size = most
	}
	for ; size <= most; size++ {
		list := least(questions, size)
		for len(list) > 0 && len(list) < size {
			list = least(s.questions(list), size)
		}
		if len(list) > 0 {
			return list
		}
	}
	return nil
}

// longer goes through the lists that have one number more than a list, at its end.
func (s search) longer(list []int) iter.Seq[[]int] {
	return func(yield func([]int) bool) {
		next := 0
		if len(list) > 0 {
			next = list[len(list)-1] + 1
		}
		for ; next < len(s.equations); next++ {
			if !yield(append(list[:len(list):len(list)], next)) {
				return
			}
		}
	}
}

// question is whether equations that begin with a list contradict each other.
type question struct {
	list []int
	with func(most int) bool // whether the list does with at most so many equations behind it
}

// questions returns those for the lists that are longer by one number, without some that no shortest list begins with.
func (s search) questions(list []int) []question {
	var all []question
bases:
	for base := range s.left {
		for longer := range s.longer(list) {
			size := len(longer)
			goals, equations := s.leaving(base, longer)
			g, leads := conditionsFor(s.one, goals, equations)
			if slices.Contains(leads, len(equations)) {
				// Nor is this base left by later lists, behind which there are fewer equations.
				continue bases
			}
			// Otherwise the list has an equation that is a product of powers of those before it.
			if slices.Index(leads, size-1) == size-1 {
				all = append(all, question{longer, behind(size, g).metBy})
			}
		}
	}
	return all
}

// leaving returns the exponents of a product in which a base is left, but no variable, and those of the equations of a list and of all behind it.
func (s search) leaving(base int, list []int) (goals []remainder, equations [][]remainder) {
	of := func(exps []remainder) []remainder {
		return append(exps[:s.variables:s.variables], exps[s.variables+base])
	}
	for _, i := range list {
		equations = append(equations, of(s.equations[i]))
	}
	for _, exps := range s.equations[list[len(list)-1]+1:] {
		equations = append(equations, of(exps))
	}
	zero := s.one.Minus(s.one)
	return append(slices.Repeat([]remainder{zero}, s.variables), s.one), equations
}

// reply is the list of a question to which the answer is yes, or the error that ended the search for it.
type reply struct {
	list []int
	api.Errno
}

// least asks all questions side by side, and returns the least list with which a list begins of at most a given size that contradicts itself; none if there is none.
func least(questions []question, size int) []int {
	replies := make(chan reply, len(questions))
	var workers sync.WaitGroup
	for _, q := range questions {
		workers.Add(1)
		go func() {
			defer workers.Done()
			yes, e := failure.Guarded(func() bool { return q.with(size - len(q.list)) })
			if yes || e != api.OK {
				replies <- reply{q.list, e}
			}
		}()
	}
	workers.Wait()
	close(replies)
	var list []int
	for x := range replies {
		failure.Check(x.Errno)
		if list == nil || slices.Compare(x.list, list) < 0 {
			list = x.list
		}
	}
	return list
}
