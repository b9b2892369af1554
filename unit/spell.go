package unit

import (
	"cmp"
	"iter"
	"strconv"
	"strings"

	"metewand/api"
)

// front returns the shortest text of a factor alone; another one can come behind it.
func (f factor) front() string {
	if f.exp == -1 {
		return "1/" + f.word
	}
	return f.word + exponentText(f.exp)
}

// behind returns the shortest text of a factor behind another one.
func (f factor) behind() string {
	if f.exp < 0 {
		return "/" + f.word + exponentText(-f.exp)
	}
	return " " + f.word + exponentText(f.exp)
}

func exponentText(exp int) string {
	if exp == 1 {
		return ""
	}
	return "^" + strconv.Itoa(exp)
}

// exponents goes through those of Short.
func exponents() iter.Seq[int] {
	return func(yield func(int) bool) {
		for n := range api.UnitShort {
			if !yield(n+1) || !yield(-n-1) {
				return
			}
		}
	}
}

// candidate is a text, or what is behind a factor of one, and how many factors it has.
type candidate struct {
	text    string
	factors int
}

// before tells whether x is the better one for Short.
func (x candidate) before(y candidate) bool {
	return cmp.Or(cmp.Compare(len(x.text), len(y.text)), cmp.Compare(x.factors, y.factors), strings.Compare(x.text, y.text)) < 0
}

// best keeps the best of all that it is offered.
type best[T interface{ before(T) bool }] struct {
	some bool
	kept T
}

func (b *best[T]) offer(x T) {
	if !b.some || x.before(b.kept) {
		b.some, b.kept = true, x
	}
}
