package affine

import (
	"sync"

	"metewand/api"
	"metewand/internal/exact"
	"metewand/internal/failure"
)

// times returns the product.
func (f form) times(g form, noise int) draft {
	linear, rest := f.draft().times(g.draft())
	return linear.extended(newNoise(noise, rest))
}

// square returns the product of the form with itself. What is not linear in it is a square, too, and so not less than 0: the new noise needs half of the way only.
func (f form) square(noise int) draft {
	linear, rest := f.draft().times(f.draft())
	half := halved(rest)
	return linear.shifted(half).extended(newNoise(noise, half))
}

// times returns the product but for what is not linear in noises, and how far away from 0 this may be.
func (d draft) times(e draft) (linear draft, rest exact.Rat) {
	products := sideBySide(
		func() exact.Rat { return d.mid.Times(e.mid) },
		func() exact.Rat { return d.radius().Times(e.radius()) },
	)
	linear = d.scaled(e.mid).joined(e.scaled(d.mid), exact.Rat.Plus)
	linear.mid = products[0]
	return linear, products[1]
}

// inverse returns 1 divided by the form, the range of which must not have 0: a multiple of the form, as steep as the curve of the inverses at the end of the range that is further away from 0, and what is missing to this curve. As the curve is steeper everywhere else, more is missing at the lower end of the range than anywhere, and less at the upper one.
func (f form) inverse(noise int) draft {
	d, one := f.draft(), exact.One()
	lo, hi := d.span()
	if zero := (exact.Rat{}); lo.Compare(zero) <= 0 && hi.Compare(zero) >= 0 {
		failure.Throw(api.ErrZero)
	}
	far := lo
	if hi.Amount().Compare(lo.Amount()) > 0 {
		far = hi
	}
	slope := one.Over(far.Times(far)).Negated()
	missing := func(x exact.Rat) exact.Rat { return one.Over(x).Minus(slope.Times(x)) }
	most, least := missing(lo), missing(hi)
	middle, half := halved(most.Plus(least)), halved(most.Minus(least))
	return d.scaled(slope).shifted(middle).extended(newNoise(noise, half))
}

// finding is a number that was found, and its place among those that are looked for, or the error that ended the search.
type finding struct {
	place  int
	number exact.Rat
	api.Errno
}

// sideBySide returns the numbers that some works, done at the same time, return.
func sideBySide(works ...func() exact.Rat) []exact.Rat {
	found := make(chan finding, len(works))
	var workers sync.WaitGroup
	for place, work := range works {
		workers.Add(1)
		go func() {
			defer workers.Done()
			number, e := failure.Guarded(work)
			found <- finding{place, number, e}
		}()
	}
	workers.Wait()
	close(found)
	numbers := make([]exact.Rat, len(works))
	for x := range found {
		failure.Check(x.Errno)
		numbers[x.place] = x.number
	}
	return numbers
}
