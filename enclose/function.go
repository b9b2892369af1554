package enclose

import (
	"strings"

	"metewand/api"
	"metewand/internal/exact"
)

// function is a function of real numbers.
type function interface {
	// takes tells whether it is there for all numbers of a.
	takes(a span) bool
	// near returns a span with whole ends that has the value at x, times a scale, which is a power of 10.
	near(x, scale exact.Rat) span
}

type (
	identity    struct{}
	squareRoot  struct{}
	exponential struct{}
	logarithm   struct{}
	sine        struct{}
)

// transcendental are functions whose value is rational at just one rational number (which is a theorem of Lindemann).
type transcendental interface {
	function
	// rational returns this number, and the value there.
	rational() (x, value int)
}

func (identity) takes(span) bool { return true }

func (identity) near(x, scale exact.Rat) span { return units(x, scale) }

func (squareRoot) takes(a span) bool { return a.lo.Compare(exact.Rat{}) >= 0 }

func (squareRoot) near(x, scale exact.Rat) span {
	square := x.Times(scale).Times(scale)
	root := square.Root()
	if root.Times(root).Compare(square) == 0 {
		return point(root)
	}
	return span{root, root.Plus(exact.One())}
}

// far are the numbers for which the exponential function and the sine are there.
func far() span { return span{exact.Whole(-api.EncloseFar), exact.Whole(api.EncloseFar)} }

func (exponential) takes(a span) bool { return a.within(far()) }

func (exponential) rational() (x, value int) { return 0, 1 }

func (exponential) near(x, scale exact.Rat) span { return expSeries(x, scale).sum() }

// expSeries is 1 + x + x^2/2! + x^3/3! + ..., which is the power x of e.
func expSeries(x, scale exact.Rat) series {
	return series{
		scale:   scale,
		first:   point(scale),
		factor:  units(x, scale),
		divisor: func(i int) int { return i + 1 },
		share:   undivided,
	}
}

func (logarithm) takes(a span) bool {
	hundred := exact.Whole(100)
	return a.within(span{exact.One().Over(hundred), hundred})
}

func (logarithm) rational() (x, value int) { return 1, 0 }

// The logarithm of x is that of a number near 1, which is x, halved or doubled some times, and that of 2 as many times.
func (logarithm) near(x, scale exact.Rat) span {
	one := exact.One()
	x, halvings := halved(x)
	half := logSeries(x.Minus(one).Over(x.Plus(one)), scale).sum()
	if halvings != 0 {
		halfOfTwo := logSeries(one.Over(exact.Whole(3)), scale).sum()
		half = half.plus(halfOfTwo.times(point(exact.Whole(halvings))))
	}
	return half.plus(half)
}

// halved returns x, halved so many times that it is from 2/3 to 4/3, and how many times these are: less than 0 if it is doubled.
func halved(x exact.Rat) (near exact.Rat, times int) {
	two, three := exact.Whole(2), exact.Whole(3)
	low, high := two.Over(three), exact.Whole(4).Over(three)
	for ; x.Compare(high) > 0; times++ {
		x = x.Over(two)
	}
	for ; x.Compare(low) < 0; times-- {
		x = x.Times(two)
	}
	return x, times
}

// logSeries is z + z^3/3 + z^5/5 + ..., which is half of the logarithm of (1+z)/(1-z); z is from -1/3 to 1/3.
func logSeries(z, scale exact.Rat) series {
	first := units(z, scale)
	return series{
		scale:   scale,
		first:   first,
		factor:  first.power(2).per(scale),
		divisor: func(int) int { return 1 },
		share:   func(i int) int { return 2*i + 1 },
	}
}

func (sine) takes(a span) bool { return a.within(far()) }

func (sine) rational() (x, value int) { return 0, 0 }

func (sine) near(x, scale exact.Rat) span {
	// Next to 1 and -1, very many digits would be needed to see that there is nothing beyond.
	near, _ := sineSeries(x, scale).sum().meet(span{scale.Negated(), scale})
	return near
}

// sineSeries is x - x^3/3! + x^5/5! - ..., which is the sine of x.
func sineSeries(x, scale exact.Rat) series {
	first := units(x, scale)
	return series{
		scale:   scale,
		first:   first,
		factor:  first.power(2).negated().per(scale),
		divisor: func(i int) int { return (2*i + 2) * (2*i + 3) },
		share:   undivided,
	}
}

// units returns the narrowest span with whole ends that has x, times a scale.
func units(x, scale exact.Rat) span { return point(x.Times(scale)).per(exact.One()) }

// tens returns 10 to the power of n.
func tens(n int) exact.Rat {
	return exact.Of(api.Rat{Num: "1" + strings.Repeat("0", n), Den: "1"})
}
