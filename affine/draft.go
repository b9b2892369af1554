package affine

import (
	"iter"

	"metewand/api"
	"metewand/internal/exact"
	"metewand/internal/failure"
)

// draft is a form in the making. Its numbers may be of any size.
type draft struct {
	mid    exact.Rat
	noises                                // those of the forms that it is made of, and new ones
	sizes  [api.AffineNoise + 1]exact.Rat // by the number of the noise
}

// plain throws ErrLarge if a number has too many digits to be returned, then ErrMany if there are too many terms.
func (d draft) plain() api.Affine {
	f := api.Affine{Mid: d.mid.Returned()}
	for noise, size := range d.terms() {
		f.Terms = append(f.Terms, api.AffineTerm{Noise: noise, Size: size.Returned()})
	}
	if len(f.Terms) > api.AffineTerms {
		failure.Throw(api.ErrMany)
	}
	return f
}

// terms goes through the noises whose sizes are not 0, ascending, and these sizes.
func (d draft) terms() iter.Seq2[int, exact.Rat] {
	return func(yield func(int, exact.Rat) bool) {
		for noise := range d.each() {
			if size := d.sizes[noise]; !size.IsZero() && !yield(noise, size) {
				return
			}
		}
	}
}

// added returns what a number, or another thing, is when some parts are added to it.
func added[S, T any](add func(sum S, part T) S, sum S, parts ...T) S {
	for _, part := range parts {
		sum = add(sum, part)
	}
	return sum
}

func (d draft) radius() exact.Rat {
	var amounts []exact.Rat
	for _, size := range d.terms() {
		amounts = append(amounts, size.Amount())
	}
	return added(exact.Rat.Plus, exact.Rat{}, amounts...)
}

// span returns the least and the greatest value.
func (d draft) span() (lo, hi exact.Rat) {
	radius := d.radius()
	return d.mid.Minus(radius), d.mid.Plus(radius)
}

// below tells whether the value is less than 0: the ends of the range tell.
func (d draft) below() int {
	lo, hi := d.span()
	ends := 0
	switch zero := (exact.Rat{}); {
	case hi.Compare(zero) < 0:
		ends++
		fallthrough
	case lo.Compare(zero) < 0:
		ends++
	}
	return [...]int{api.No, api.Maybe, api.Yes}[ends]
}

// joined returns the draft whose numbers are made of those of d and e.
func (d draft) joined(e draft, join func(x, y exact.Rat) exact.Rat) draft {
	d.noises = d.union(e.noises)
	d.mid = join(d.mid, e.mid)
	for noise := range d.each() {
		d.sizes[noise] = join(d.sizes[noise], e.sizes[noise])
	}
	return d
}

func (d draft) scaled(factor exact.Rat) draft {
	d.mid = d.mid.Times(factor)
	for noise := range d.each() {
		d.sizes[noise] = d.sizes[noise].Times(factor)
	}
	return d
}

func (d draft) shifted(x exact.Rat) draft {
	d.mid = d.mid.Plus(x)
	return d
}

// only returns the draft with the terms of some noises alone.
func (d draft) only(keep noises) draft {
	for noise := range d.less(keep).each() {
		d.sizes[noise] = exact.Rat{}
	}
	return d
}

// furthest returns so many noises, or all if there are no more: those with the sizes furthest away from 0, of several the lesser ones.
func (d draft) furthest(many int) noises {
	order := &ranking[int]{compare: func(a, b int) int {
		return d.sizes[b].Amount().Compare(d.sizes[a].Amount())
	}}
	d.each()(order.put)
	return added(noises.with, noNoise, order.first(many)...)
}
