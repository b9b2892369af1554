package ratio

import (
	"sync"

	"metewand/api"
	"metewand/internal/failure"
)

// mostPower is the greatest exponent of Pow.
const mostPower = 20

// times reduces before it multiplies, so that nothing on the way is longer than the product.
func (n number) times(m number) number {
	g, h := gcd(n.Num, m.Den), gcd(m.Num, n.Den)
	return sideBySide(
		n.short() && m.short(),
		func() string { return mul(divided(n.Num, g), divided(m.Num, h)) },
		func() string { return mul(divided(n.Den, h), divided(m.Den, g)) },
	)
}

func (n number) over(m number) number {
	if m.isZero() {
		failure.Throw(api.ErrZero)
	}
	return n.times(m.inverse())
}

func (n number) power(exponent int) number {
	switch {
	case exponent < -mostPower || exponent > mostPower:
		failure.Throw(api.ErrValue)
	case exponent < 0 && n.isZero():
		failure.Throw(api.ErrZero)
	case exponent < 0:
		return n.inverse().power(-exponent)
	}
	return sideBySide(
		max(len(n.Num), len(n.Den))*exponent < api.Digits/2,
		func() string { return pow(n.Num, exponent) },
		func() string { return pow(n.Den, exponent) },
	)
}

// side is a numerator (0) or denominator (1), or the error that its computation threw.
type side struct {
	place int
	text  string
	api.Errno
}

// sideBySide returns a numerator over a denominator. They are computed at the same time, unless they are so short that this takes longer.
func sideBySide(short bool, num, den func() string) number {
	if short {
		return of(num(), den())
	}
	done := make(chan side, 2)
	var workers sync.WaitGroup
	for place, work := range [...]func() string{num, den} {
		workers.Add(1)
		go func() {
			defer workers.Done()
			text, e := failure.Guarded(work)
			done <- side{place, text, e}
		}()
	}
	workers.Wait()
	close(done)
	var sides [2]side
	for s := range done {
		sides[s.place] = s
	}
	return of(must(sides[0].text, sides[0].Errno), must(sides[1].text, sides[1].Errno))
}
