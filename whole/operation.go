package whole

// operation is one of the three that make one number of two.
type operation interface {
	ofNumbers(n, m number) number
}

type (
	sum        struct{}
	difference struct{}
	product    struct{}
)

func (sum) ofNumbers(n, m number) number        { return n.plus(m) }
func (difference) ofNumbers(n, m number) number { return n.minus(m) }
func (product) ofNumbers(n, m number) number    { return n.times(m) }

// smallWay returns how the operation is done with smalls, which is faster, but not always possible.
func smallWay(op operation) func(s, t small) (small, bool) {
	switch op.(type) {
	case sum:
		return small.plus
	case difference:
		return small.minus
	}
	return small.times
}

// calculate returns the result of an operation of two strings.
func calculate(op operation, a, b string) string {
	if valid(a, b) == short {
		if s, ok := smallWay(op)(smallOf(a), smallOf(b)); ok {
			return s.text()
		}
	}
	return op.ofNumbers(numberOf(a), numberOf(b)).text()
}
