package affine

import (
	"metewand/api"
	"metewand/internal/exact"
	"metewand/internal/failure"
)

// extra is a new noise of a draft, for what is not known any more.
type extra interface {
	// check throws the error of its number, where some noises are taken.
	check(taken noises)
}

// idle is a new noise that does not count.
type idle struct{ number }

// counting is a new noise with a size that is not 0.
type counting struct {
	number
	size exact.Rat
}

func newNoise(noise int, size exact.Rat) extra {
	if size.IsZero() {
		return idle{number(noise)}
	}
	return counting{number(noise), size}
}

// number is that of a new noise.
type number int

func (n number) check(taken noises) {
	noise := int(n)
	checkNoise(noise)
	if taken.has(noise) {
		failure.Throw(api.ErrTwice)
	}
}

// extended returns the draft with a new noise.
func (d draft) extended(x extra) draft {
	x.check(d.noises)
	switch x := x.(type) {
	case idle:
		// All is known.
	case counting:
		noise := int(x.number)
		d.noises = d.with(noise)
		d.sizes[noise] = x.size
	}
	return d
}

// between returns the form of the numbers from one to another, with one noise.
func between(lo, hi exact.Rat, noise int) draft {
	middle, half := halved(hi.Plus(lo)), halved(hi.Minus(lo))
	return draft{mid: middle}.extended(newNoise(noise, half))
}

func halved(x exact.Rat) exact.Rat { return x.Over(exact.Whole(2)) }

// merged returns the form with so many terms, those with the sizes furthest away from 0, and a new noise for all others.
func (f form) merged(many, noise int) draft {
	if many < 0 {
		failure.Throw(api.ErrValue)
	}
	d := f.draft()
	kept := d.furthest(many)
	others := newNoise(noise, d.only(d.less(kept)).radius())
	merged := d.extended(others)
	if x, some := others.(counting); some {
		merged = merged.only(kept.with(int(x.number)))
	}
	return merged
}
