package affine

import (
	"metewand/api"
	"metewand/internal/exact"
	"metewand/internal/failure"
	"metewand/ratio"
)

// form is a valid form at work, as it is given.
type form struct {
	api.Affine
	noises                              // those that it has
	sizes  [api.AffineNoise + 1]api.Rat // by the number of the noise; the zero value where there is no term
}

// valid throws the error of a form.
func valid(a api.Affine) form {
	failure.Check(ratio.Check(a.Mid))
	if len(a.Terms) > api.AffineTerms {
		failure.Throw(api.ErrMany)
	}
	f := form{Affine: a}
	for noise, size := range checked(a.Terms, checkCounts) {
		f.noises = f.with(noise)
		f.sizes[noise] = size
	}
	return f
}

// both throws the error of the first form that has one.
func both(a, b api.Affine) (f, g form) {
	f = valid(a)
	return f, valid(b)
}

// draft returns the form as one in the making.
func (f form) draft() draft {
	d := draft{mid: exact.Of(f.Mid), noises: f.noises}
	for noise := range f.each() {
		d.sizes[noise] = exact.Of(f.sizes[noise])
	}
	return d
}

func (f form) plus(g form) draft {
	return f.draft().joined(g.draft(), exact.Rat.Plus)
}

// minus returns the difference. Forms with the same Sizes vary alike, so that theirs does not vary.
func (f form) minus(g form) draft {
	if f.sizes == g.sizes {
		return draft{mid: exact.Of(f.Mid).Minus(exact.Of(g.Mid))}
	}
	return f.draft().joined(g.draft(), exact.Rat.Minus)
}

// value returns the value under a setting.
func (f form) value(set setting) exact.Rat {
	d := f.draft()
	var parts []exact.Rat
	left := len(set)
adding:
	for noise, size := range d.terms() {
		switch value, is := set[noise]; {
		case left == 0: // all other noises have the value 0
			break adding
		case is:
			parts = append(parts, size.Times(value))
			left--
		}
	}
	return added(exact.Rat.Plus, d.mid, parts...)
}

// fixed returns the form in which a noise has a value.
func (f form) fixed(noise int, value api.Rat) draft {
	checkNoise(noise)
	failure.Check(ratio.Check(value))
	checkReach(value)
	d := f.draft()
	part := d.sizes[noise].Times(exact.Of(value))
	return d.only(d.without(noise)).shifted(part)
}
