package enclose

import (
	"metewand/api"
	"metewand/internal/exact"
	"metewand/internal/failure"
	"metewand/ratio"
)

// enclosure is a valid one, as it is given, and as a span.
type enclosure struct {
	api.Enclosure
	span
}

// valid throws the error of an enclosure.
func valid(a api.Enclosure) enclosure {
	order, e := ratio.Compare(a.Lo, a.Hi)
	failure.Check(e)
	if order > 0 {
		failure.Throw(api.ErrOrder)
	}
	return enclosure{a, span{exact.Of(a.Lo), exact.Of(a.Hi)}}
}

// both throws the error of the first enclosure that has one.
func both(a, b api.Enclosure) (s, t enclosure) {
	s = valid(a)
	return s, valid(b)
}

// plain throws ErrLarge if an end has too many digits to be returned.
func (a span) plain() api.Enclosure {
	return api.Enclosure{Lo: a.lo.Returned(), Hi: a.hi.Returned()}
}
