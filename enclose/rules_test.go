package enclose_test

import (
	"math"
	"slices"
	"strings"
	"sync"
	"testing"

	"metewand/api"
	"metewand/enclose"
	"metewand/internal/byhand"
	"metewand/internal/outcome"
	"metewand/ratio"
)

// odd returns enclosures of all kinds, valid ones and others.
func odd() []api.Enclosure {
	ends := []api.Rat{{}, q("-"), q("0"), q("-0"), q("1"), q("-1"), q("4"), q("-4"), q("1/100"), q("-7/3"), q("2/4"), q("1/0"), q("1/-1"), q("\xff"), q(nines), q("-" + nines), q("1/" + nines), q("-" + nines + "/" + tens), q(over), q("1/" + over), q(strings.Repeat("z", 3000)), q("9223372036854775808")}
	var all []api.Enclosure
	for _, lo := range ends {
		for _, hi := range ends {
			all = append(all, api.Enclosure{Lo: lo, Hi: hi})
		}
	}
	return all
}

// outcomes calls all functions with some arguments, and returns what they return.
func outcomes(a, b, c api.Enclosure, x api.Rat, n int) []string {
	return []string{
		outcome.Name(enclose.Check(a)), is(enclose.Has(a, x)), one(enclose.Plus(a, b)), one(enclose.Minus(a, b)), one(enclose.Times(a, b)), one(enclose.Over(a, b)), list(enclose.Solve(a, b, c)), one(enclose.Power(a, n)),
		one(enclose.Meet(a, b)), one(enclose.Hull(a, b)), verdict(enclose.Below(a, b)), one(enclose.Round(a, n)), one(enclose.Root(a, n)), one(enclose.Exp(a, n)), one(enclose.Log(a, n)), one(enclose.Sin(a, n)),
	}
}

// TestP1NoPanic: each function returns, whatever its arguments are.
func TestP1NoPanic(t *testing.T) {
	seed := byhand.Chance(201)
	all := odd()
	for _, a := range all {
		for _, n := range []int{math.MinInt, -1, 0, 6, 8, 9, math.MaxInt} {
			b, c := all[seed.Below(len(all))], all[seed.Below(len(all))]
			outcomes(a, b, c, c.Lo, n)
		}
	}
}

// TestR1 is the order of errors: of the first argument, of the second one, of the third one, those that the promises name, and ErrLarge.
func TestR1(t *testing.T) {
	seed := byhand.Chance(202)
	all := odd()
	valid := 0
	for _, a := range all {
		b, c := all[seed.Below(len(all))], all[seed.Below(len(all))]
		first, second, third := enclose.Check(a), enclose.Check(b), enclose.Check(c)
		if first != api.OK {
			row(t, outcomes(a, b, c, c.Lo, 99), slices.Repeat([]string{outcome.Name(first)}, 16)...)
			continue
		}
		valid++
		got := outcomes(a, b, c, c.Lo, 99)
		row(t, append(got[11:], got[7]), slices.Repeat([]string{"ErrValue"}, 6)...)
		if e := ratio.Check(c.Lo); e != api.OK {
			row(t, got[1:2], outcome.Name(e))
		}
		if second != api.OK {
			row(t, append(got[2:7:7], got[8:11]...), slices.Repeat([]string{outcome.Name(second)}, 8)...)
		} else if third != api.OK {
			row(t, got[6:7], outcome.Name(third))
		}
	}
	if valid < 60 {
		t.Error(valid)
	}
	// An error that a promise names comes before a number that is too large.
	most := in("-" + nines + ".." + nines)
	row(t, []string{one(enclose.Over(most, in("-1/"+nines+"..1"))), one(enclose.Over(most, in("1/"+nines+"..1"))), one(enclose.Power(most, 7)), one(enclose.Power(most, 6)), one(enclose.Meet(in(nines+".."+nines), in("-1..0"))), one(enclose.Round(in("0.."+nines+"/7"), 9)), one(enclose.Round(in("0.."+nines+"/7"), 8))}, "ErrZero", "ErrLarge", "ErrValue", "ErrLarge", "ErrNone", "ErrValue", "ErrLarge")
}

// TestR2 is that nothing is remembered between calls, and that calls at the same time do not disturb each other.
func TestR2(t *testing.T) {
	s := &sample{203, 30}
	a, b := s.domain("1/100", "4"), s.domain("-4", "4")
	below, above := neighbours("0", logOfFiveHalves)
	c := around(below, above)
	of := func() []string { return slices.Concat(outcomes(a, b, c, below, 6), outcomes(b, c, a, above, 5)) }
	want := of()
	var all sync.WaitGroup
	for range 8 {
		all.Go(func() {
			for range 4 {
				if got := of(); !slices.Equal(got, want) {
					t.Errorf("got %q, want %q", got, want)
				}
				outcomes(c, a, b, q("1"), 2)
			}
		})
	}
	all.Wait()
}

// TestR3 is that results are zero values if there is an error.
func TestR3(t *testing.T) {
	zero := func(a api.Enclosure, e api.Errno) {
		t.Helper()
		if e == api.OK || a != (api.Enclosure{}) {
			t.Error(preview(a), e)
		}
	}
	most, bad := in("-"+nines+".."+nines), in("2..1")
	// Lo alone, or Hi alone, is too large.
	for _, x := range []string{"-" + nines + "..0", "0.." + nines} {
		zero(enclose.Plus(in(x), in("-1..1")))
		zero(enclose.Minus(in(x), in("-1..1")))
		zero(enclose.Times(in(x), in("2..2")))
		zero(enclose.Over(in(x), in("1/2..1/2")))
		zero(enclose.Power(in(x), 3))
	}
	zero(enclose.Round(in("-"+nines+"/7..0"), 8))
	zero(enclose.Round(in("0.."+nines+"/7"), 8))
	zero(enclose.Over(a, b))
	zero(enclose.Meet(a, c))
	zero(enclose.Hull(a, bad))
	zero(enclose.Root(b, 1))
	zero(enclose.Exp(in("4..5"), 1))
	zero(enclose.Log(z, 1))
	zero(enclose.Sin(most, 1))
	zero(enclose.Sin(a, 9))
	if has, e := enclose.Has(a, q("2/2")); has || e != api.ErrForm {
		t.Error(has, e)
	}
	if n, e := enclose.Below(a, bad); n != 0 || e != api.ErrOrder {
		t.Error(n, e)
	}
	// The first of the parts has no number that is too large.
	if l, e := enclose.Solve(in("1/3..1/3"), in("-1.."+nines), in("-1..1")); l != nil || e != api.ErrLarge {
		t.Error(len(l), e)
	}
	if l, e := enclose.Solve(a, b, bad); l != nil || e != api.ErrOrder {
		t.Error(len(l), e)
	}
}

// TestR4 is that no two results share memory.
func TestR4(t *testing.T) {
	first, _ := enclose.Solve(a, b, in("-9..9"))
	second, _ := enclose.Solve(a, b, in("-9..9"))
	first[0] = z
	_ = append(first[:1], z)
	row(t, []string{list(second, api.OK), list(enclose.Solve(a, b, in("-9..9")))}, "-9..-1 1/3..9", "-9..-1 1/3..9")
}
