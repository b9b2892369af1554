package enclose

import (
	"slices"
	"strconv"
	"testing"

	"metewand/api"
	"metewand/internal/byhand"
	"metewand/internal/exact"
	"metewand/internal/failure"
)

func fraction(num, den int) exact.Rat { return exact.Whole(num).Over(exact.Whole(den)) }

// at are numbers from the whole domain of a function.
func at(f function) []exact.Rat {
	var all []exact.Rat
	for n := -399; n <= 9999; n += 1 + max(n, -n)/9 {
		if x := fraction(n, 100); f.takes(point(x)) {
			all = append(all, x)
		}
	}
	return append(all, exact.One(), fraction(22, 7))
}

var curves = map[string]transcendental{"exp": exponential{}, "log": logarithm{}, "sin": sine{}}

// TestNear: what is found with more digits lies in what is found with fewer ones, and each is narrow.
func TestNear(t *testing.T) {
	for name, f := range curves {
		for _, x := range at(f) {
			last := f.near(x, tens(10))
			for _, digits := range []int{11, 13, 20, 40, 41, 90} {
				next := f.near(x, tens(digits))
				for _, end := range []exact.Rat{next.lo, next.hi} {
					if end.Per(exact.One()).Compare(end) != 0 {
						t.Fatal(name, x.Text(), digits, end.Text())
					}
				}
				if next.hi.Minus(next.lo).Compare(exact.Whole(10000)) > 0 {
					t.Fatal(name, x.Text(), digits, next.lo.Text(), next.hi.Text())
				}
				if wide := f.near(x, tens(digits/2)); !next.per(tens(digits - digits/2)).meets(wide) {
					t.Fatal(name, x.Text(), digits)
				}
				if digits > 13 && !next.per(tens(digits-10)).within(last) {
					t.Fatal(name, x.Text(), digits, next.lo.Text(), last.lo.Text(), last.hi.Text())
				}
			}
		}
	}
}

func (a span) meets(b span) bool {
	_, some := a.meet(b)
	return some
}

// TestSteady: at the ends of the domains, each term behind a steady one is less than half of the one before.
func TestSteady(t *testing.T) {
	scale := tens(60)
	for name, f := range map[string]func(x, scale exact.Rat) series{"exp": expSeries, "sin": sineSeries, "log": logSeries} {
		for _, end := range []exact.Rat{exact.Whole(4), exact.Whole(-4)} {
			if name == "log" {
				end = end.Over(exact.Whole(12))
			}
			var sizes []exact.Rat
			for i, term := range f(end, scale).terms() {
				if i >= steady {
					sizes = append(sizes, greatest(term.hi, term.lo.Negated()))
				}
				if i == steady+12 {
					break
				}
			}
			for i, size := range sizes[1:] {
				if size.Plus(size).Compare(sizes[i]) >= 0 {
					t.Error(name, i, size.Text())
				}
			}
		}
	}
}

// TestHalved: the series of the logarithm is for numbers from -1/3 to 1/3.
func TestHalved(t *testing.T) {
	for _, x := range append(at(logarithm{}), fraction(2, 3), fraction(4, 3), fraction(200001, 300000), fraction(400001, 300000), fraction(199999, 300000), fraction(399999, 300000), fraction(8, 3)) {
		near, times := halved(x)
		if !point(near).within(span{fraction(2, 3), fraction(4, 3)}) {
			t.Error(x.Text(), near.Text())
		}
		for ; times > 0; times-- {
			near = near.Plus(near)
		}
		for ; times < 0; times++ {
			near = near.Over(exact.Whole(2))
		}
		if near.Compare(x) != 0 {
			t.Error(x.Text(), near.Text())
		}
	}
}

// TestTurn: rounded up at api.EnclosePlaces, the sine is 1 at 355/226, and far around it on both sides; farther away it grows, and falls.
func TestTurn(t *testing.T) {
	turn := fraction(355, 226)
	one := tens(api.EnclosePlaces)
	var last span
	for n := -20; n <= 20; n++ {
		x := turn.Plus(fraction(n, 1000000))
		if got := (search{sine{}, x, api.EnclosePlaces}).next(); got.hi.Compare(one) != 0 {
			t.Error(n, got.hi.Text())
		}
		next := sine{}.near(x, tens(30))
		switch {
		case n > -20 && n < 0 && next.lo.Compare(last.hi) <= 0:
			t.Error(n, "does not grow")
		case n > 1 && next.hi.Compare(last.lo) >= 0:
			t.Error(n, "does not fall")
		}
		last = next
	}
}

// steps is a function whose value, 1/3, is known to so many digits only after some tries.
type steps struct {
	identity
	tries *int
}

func (s steps) near(x, scale exact.Rat) span {
	*s.tries++
	near := units(fraction(1, 3), scale)
	if *s.tries < 5 {
		return near.hull(point(exact.Rat{}))
	}
	return near
}

// TestSearch goes on until the digits are known.
func TestSearch(t *testing.T) {
	tries := 0
	got := search{steps{tries: &tries}, exact.Rat{}, 3}.next()
	if got.lo.Text() != "333" || got.hi.Text() != "334" || tries != 5 {
		t.Error(got.lo.Text(), got.hi.Text(), tries)
	}
}

// broken has a fault.
type broken struct{ identity }

func (broken) near(x, scale exact.Rat) span { panic("x") }

// TestFault: a fault in a goroutine is an error.
func TestFault(t *testing.T) {
	one, two := api.Rat{Num: "1", Den: "1"}, api.Rat{Num: "2", Den: "1"}
	for _, a := range []api.Enclosure{{Lo: one, Hi: one}, {Lo: one, Hi: two}} {
		if got, e := outward(broken{}, a, 1); e != api.ErrLimit || got != (api.Enclosure{}) {
			t.Error(got, e)
		}
	}
}

func TestKnown(t *testing.T) {
	for name, f := range curves {
		x, value := f.rational()
		end := api.Rat{Num: strconv.Itoa(x), Den: "1"}
		lo, hi := valid(api.Enclosure{Lo: end, Hi: end}).values(f, 2)
		for _, got := range []span{lo, hi} {
			if got.lo.Text() != strconv.Itoa(value*100) && value == 1 || got.lo.Compare(got.hi) != 0 {
				t.Error(name, got.lo.Text(), got.hi.Text())
			}
		}
	}
	if known := knownValues(squareRoot{}, exact.One()); len(known) != 0 {
		t.Error(known)
	}
}

// TestPer compares with numbers that are divided one by one.
func TestPer(t *testing.T) {
	for lo := -7; lo <= 7; lo++ {
		for hi := lo; hi <= 7; hi++ {
			for unit := 1; unit < 5; unit++ {
				got := span{exact.Whole(lo), exact.Whole(hi)}.per(exact.Whole(unit))
				first, last := -9, 9
				for (first+1)*unit <= lo {
					first++
				}
				for (last-1)*unit >= hi {
					last--
				}
				if got.lo.Compare(exact.Whole(first)) != 0 || got.hi.Compare(exact.Whole(last)) != 0 {
					t.Error(lo, hi, unit, got.lo.Text(), got.hi.Text())
				}
			}
		}
	}
}

// TestParts: the spans that are given stay as they are, and what is behind the end of the parts is nobody's.
func TestParts(t *testing.T) {
	in := func(lo, hi int) span { return span{exact.Whole(lo), exact.Whole(hi)} }
	spans := []span{in(-9, -5), in(-3, 0), in(2, 3)}
	before := slices.Clone(spans)
	parts := in(-4, 2).parts(spans...)
	same := func(a, b span) bool { return a.lo.Compare(b.lo) == 0 && a.hi.Compare(b.hi) == 0 }
	if !slices.EqualFunc(parts, []span{in(-3, 0), in(2, 2)}, same) || cap(parts) != 2 || !slices.EqualFunc(spans, before, same) {
		t.Error(parts)
	}
}

func TestLeast(t *testing.T) {
	seed := byhand.Chance(301)
	for range 200 {
		var all []exact.Rat
		var numbers []int
		for range 1 + seed.Below(4) {
			numbers = append(numbers, seed.Below(9)-4)
			all = append(all, exact.Whole(numbers[len(numbers)-1]))
		}
		if least(all[0], all[1:]...).Compare(exact.Whole(slices.Min(numbers))) != 0 || greatest(all[0], all[1:]...).Compare(exact.Whole(slices.Max(numbers))) != 0 {
			t.Error(numbers)
		}
	}
}

// TestPlain has an end that is too large, Lo or Hi.
func TestPlain(t *testing.T) {
	large := tens(api.Digits)
	for want, a := range map[api.Errno]span{api.OK: point(tens(api.Digits - 1)), api.ErrLarge: {exact.Rat{}, large}} {
		if _, e := failure.Guarded(a.plain); e != want {
			t.Error(e, want)
		}
		if _, e := failure.Guarded(a.negated().plain); e != want {
			t.Error(e, want)
		}
	}
}
