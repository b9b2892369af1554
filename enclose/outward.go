package enclose

import (
	"slices"
	"strconv"
	"sync"

	"metewand/api"
	"metewand/internal/exact"
	"metewand/internal/failure"
)

// outward returns the outward span of the least and the greatest value of a function; it throws ErrValue for the places, or unless the function is there for all numbers of a.
func (a enclosure) outward(f function, places int) span {
	if places < 0 || places > api.EnclosePlaces || !f.takes(a.span) {
		failure.Throw(api.ErrValue)
	}
	scale := tens(places)
	lo, hi := a.values(f, places)
	image := lo.hull(hi)
	if _, turns := f.(sine); turns {
		image = a.turned(image, scale)
	}
	return image.times(point(exact.One().Over(scale)))
}

// turned returns the image under the sine, times a scale, of which a span is known that has the values at both ends: it goes on to -1 or 1, if -π/2 or π/2 is in a.
//
// These numbers are not rational. But 355/226 is so near to π/2 that the sines of both, and of all numbers between them, are 1 if rounded up at api.EnclosePlaces. So if a has just one of both, an end of a is between them, and the image goes on to 1 anyway.
func (a enclosure) turned(image span, scale exact.Rat) span {
	turn := exact.Whole(355).Over(exact.Whole(226))
	for _, side := range [...]int{-1, 1} {
		sign := exact.Whole(side)
		if point(turn.Times(sign)).within(a.span) {
			image = image.hull(point(scale.Times(sign)))
		}
	}
	return image
}

// reply is what was found for an end of an enclosure, or the error that ended the search.
type reply struct {
	end api.Rat
	span
	api.Errno
}

// values returns what is next to the values at both ends (see search.next). They are looked for side by side, unless they are known.
func (a enclosure) values(f function, places int) (lo, hi span) {
	known := knownValues(f, tens(places))
	replies := make(chan reply, 2)
	var workers sync.WaitGroup
	for _, end := range slices.Compact([]api.Rat{a.Lo, a.Hi}) {
		if _, is := known[end]; is {
			continue
		}
		workers.Add(1)
		go func() {
			defer workers.Done()
			found, e := failure.Guarded(search{f, exact.Of(end), places}.next)
			replies <- reply{end, found, e}
		}()
	}
	workers.Wait()
	close(replies)
	for x := range replies {
		failure.Check(x.Errno)
		known[x.end] = x.span
	}
	return known[a.Lo], known[a.Hi]
}

// knownValues returns values, times a scale, that no search would end at.
func knownValues(f function, scale exact.Rat) map[api.Rat]span {
	known := map[api.Rat]span{}
	if t, is := f.(transcendental); is {
		x, value := t.rational()
		known[api.Rat{Num: strconv.Itoa(x), Den: "1"}] = point(exact.Whole(value).Times(scale))
	}
	return known
}

// search is for the value of a function at a number.
type search struct {
	function
	x      exact.Rat
	places int
}

// spare is how many places more are computed at first. They are enough, unless there are many digits 0 or 9.
const spare = 10

// next returns the narrowest span with whole ends that has the value, times 10 to the power of the places.
func (s search) next() span {
	switch f := s.function.(type) {
	case identity, squareRoot:
		// Nothing is narrower than what they return.
		return f.near(s.x, tens(s.places))
	}
	digits := s.places + spare
again:
	// A value that is not rational lies between two whole numbers, of which the second one is 1 more. With enough digits, it is known between which ones.
	found := s.near(s.x, tens(digits)).per(tens(digits - s.places))
	if found.lo.Plus(exact.One()).Compare(found.hi) != 0 {
		digits *= 2
		goto again
	}
	return found
}
