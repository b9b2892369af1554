package whole

import (
	"sync"

	"metewand/api"
	"metewand/internal/failure"
)

// Products of two numbers of at least sideBySide limbs each are computed in parts of partLimbs limbs; smaller ones are done before goroutines would have begun.
const (
	sideBySide = 24
	partLimbs  = 16
)

// multiplied returns the product of all factors, 1 if there are none.
func multiplied(factors ...natural) natural {
	result := natural{1}
	for i, factor := range factors {
		if i == 0 {
			result = factor
			continue
		}
		result = result.times(factor)
	}
	return result
}

func (x natural) times(y natural) natural {
	if min(len(x), len(y)) < sideBySide {
		return x.timesRows(y)
	}
	return x.timesParts(y)
}

// timesRows adds up the rows of a product as they are written on paper.
func (x natural) timesRows(y natural) natural {
	z := make(natural, len(x)+len(y))
	for i, limb := range x {
		row := z[i : i+len(y)+1]
		carry := uint64(0)
		for j, other := range y {
			t := uint64(limb)*uint64(other) + uint64(row[j]) + carry
			carry = t / limbBase
			row[j] = uint32(t % limbBase)
		}
		row[len(y)] = uint32(carry)
	}
	return z.trimmed()
}

// partProduct is the product of the limbs of one factor from a place on, and the other factor.
type partProduct struct {
	place   int
	product natural
}

// timesParts finds the products of parts of x side by side. They are added up in any order: the sum is the same.
func (x natural) timesParts(y natural) natural {
	done := make(chan partProduct, (len(x)+partLimbs-1)/partLimbs)
	var workers sync.WaitGroup
	for place := 0; place < len(x); place += partLimbs {
		end := min(place+partLimbs, len(x))
		part := x[place:end:end]
		workers.Add(1)
		go func() {
			defer workers.Done()
			done <- partProduct{place, part.timesRows(y)}
		}()
	}
	workers.Wait()
	close(done)
	z := make(natural, len(x)+len(y))
	for p := range done {
		z[p.place:].gain(p.product)
	}
	return z.trimmed()
}

// power returns x to the power n. It throws ErrLarge as soon as it has more digits than most.
func (x natural) power(n, most int) natural {
	result := natural{1}
	for bit := topBit(n); bit > 0; bit /= 2 {
		// A product on the way is never greater than the power, so that one that is too large decides.
		if n&bit != 0 {
			result = multiplied(result, result, x)
		} else {
			result = multiplied(result, result)
		}
		if result.digits() > most {
			failure.Throw(api.ErrLarge)
		}
	}
	return result
}

// topBit returns the greatest power of 2 that is not more than n, and 0 if n is 0.
func topBit(n int) int {
	bit := 0
	for next := 1; next <= n; next *= 2 {
		bit = next
	}
	return bit
}
