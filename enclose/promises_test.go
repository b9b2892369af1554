package enclose_test

import (
	"slices"
	"strconv"
	"strings"
	"testing"

	"metewand/api"
	"metewand/enclose"
	"metewand/internal/byhand"
	"metewand/internal/outcome"
)

// P6.1

func TestP6_01Check(t *testing.T) {
	for s, want := range map[string]api.Errno{
		"0..0": api.OK, "-1/2..-1/3": api.OK, "1/3..1/2": api.OK, "-" + nines + ".." + nines: api.OK, "1/" + nines + "..1/" + tens: api.OK,
		"1..0": api.ErrOrder, "1/2..1/3": api.ErrOrder, "-1/3..-1/2": api.ErrOrder, "0..-1/" + nines: api.ErrOrder, "1/" + tens + "..1/" + nines: api.ErrOrder,
		"2/4..1": api.ErrForm, "1..2/4": api.ErrForm, "1..1/0": api.ErrForm, "..": api.ErrForm, "1..": api.ErrForm, "..1": api.ErrForm, "1..-0": api.ErrForm, "01..2": api.ErrForm,
		over + "..1": api.ErrLarge, "1.." + over: api.ErrLarge, "-" + over + "..2/2": api.ErrLarge, "2/2.." + over: api.ErrForm, "1/" + over + "..x": api.ErrLarge,
	} {
		if got := enclose.Check(in(s)); got != want {
			t.Errorf("Check(%s) = %s", preview(in(s)), outcome.Name(got))
		}
	}
	if e := enclose.Check(api.Enclosure{}); e != api.ErrForm {
		t.Error(e)
	}
}

func TestP6_01ByHand(t *testing.T) {
	for _, s := range kinds(11) {
		for range 200 {
			a, b := s.in(), s.in()
			if s.Below(3) == 0 {
				b = around(a.Hi, b.Hi) // with an end in common
			}
			for _, x := range []api.Rat{a.Lo, a.Hi, s.inside(a), b.Lo, s.rat()} {
				if byhand.Fits(x) {
					row(t, []string{is(enclose.Has(a, x))}, is(has(a, x), api.OK))
				}
			}
			due(t, around(a.Lo, a.Hi, b.Lo, b.Hi), get(t)(enclose.Hull(a, b)), api.OK)
			meet, e := enclose.Meet(a, b)
			if common(a, b) {
				due(t, api.Enclosure{Lo: around(a.Lo, b.Lo).Hi, Hi: around(a.Hi, b.Hi).Lo}, meet, e)
			} else if e != api.ErrNone || meet != (api.Enclosure{}) {
				t.Fatal(preview(a), preview(b), preview(meet), e)
			}
		}
	}
}

func TestP6_01Ends(t *testing.T) {
	row(t, []string{is(enclose.Has(a, q("1"))), is(enclose.Has(a, q("2"))), is(enclose.Has(z, q("0"))), is(enclose.Has(a, q(nines+"/"+tens))), is(enclose.Has(in("1.."+nines), q(nines+"/"+tens))), is(enclose.Has(a, q("2/2"))), is(enclose.Has(in("1..0"), q("2/2")))}, "true", "true", "true", "false", "true", "ErrForm", "ErrOrder")
	row(t, []string{one(enclose.Meet(a, in("2..3"))), one(enclose.Meet(in("2..3"), in("0..9/4"))), one(enclose.Meet(c, c)), one(enclose.Meet(in("-1/"+tens+"..1"), in("-2..-1/"+tens))), one(enclose.Meet(in("-1/"+nines+"..1"), in("-2..-1/"+tens)))}, "2..2", "2..9/4", "1/2..1/2", "-1/"+tens+"..-1/"+tens, "ErrNone")
	row(t, []string{one(enclose.Hull(a, z)), one(enclose.Hull(in("-1..9"), a)), one(enclose.Hull(in("-"+nines+"..0"), in("0.."+nines)))}, "0..2", "-1..9", "-"+nines+".."+nines)
}

// P6.2

func TestP6_02ByHand(t *testing.T) {
	for _, s := range kinds(21) {
		for range 60 {
			a, b := s.in(), s.in()
			got, e := enclose.Plus(a, b)
			due(t, around(each(plus, a, b)...), got, e)
			got, e = enclose.Minus(a, b)
			due(t, around(each(minus, a, b)...), got, e)
			got, e = enclose.Times(a, b)
			due(t, around(each(times, a, b)...), got, e)
			got, e = enclose.Over(a, b)
			if has(b, q("0")) {
				row(t, []string{one(got, e)}, "ErrZero")
			} else {
				due(t, around(each(divided, a, b)...), got, e)
			}
		}
	}
}

func TestP6_02Power(t *testing.T) {
	for _, s := range kinds(22) {
		for range 25 {
			a := s.in()
			lo, hi := q("1"), q("1")
			for n := range 7 {
				want := []api.Rat{lo, hi}
				if n > 0 && has(a, q("0")) {
					want = append(want, q("0"))
				}
				got, e := enclose.Power(a, n)
				due(t, around(want...), got, e)
				lo, hi = times(lo, a.Lo), times(hi, a.Hi)
			}
			row(t, []string{one(enclose.Power(a, -1)), one(enclose.Power(a, 7)), one(enclose.Power(a, 1))}, "ErrValue", "ErrValue", text(a))
		}
	}
	row(t, []string{one(enclose.Power(z, 0)), one(enclose.Power(z, 1)), one(enclose.Power(z, 6)), one(enclose.Power(in("-2..0"), 4)), one(enclose.Power(in("-2..0"), 5)), one(enclose.Power(in("-3..2"), 6)), one(enclose.Power(in("-3..2"), 5)), one(enclose.Power(in("-3/2..-1/2"), 6))}, "1..1", "0..0", "0..0", "0..16", "-32..0", "0..729", "-243..32", "1/64..729/64")
}

// TestP6_02Limits has results of 400 and of 401 digits, and numbers on the way that are too large, although those of the result are not.
func TestP6_02Limits(t *testing.T) {
	most, last := in("-"+nines+".."+nines), in("1..1")
	row(t, []string{one(enclose.Plus(most, last)), one(enclose.Minus(most, last)), one(enclose.Plus(in("-"+nines+"..1"), last)), one(enclose.Minus(in("-"+nines+"..1"), in("-1..-1"))), one(enclose.Times(most, in("-1..1"))), one(enclose.Times(most, in("1..2"))), one(enclose.Over(most, in("1/2..1"))), one(enclose.Over(most, in("1..2"))), one(enclose.Power(most, 1)), one(enclose.Power(most, 2)), one(enclose.Power(most, 0))}, "ErrLarge", "ErrLarge", "-"+nines[:399]+"8..2", "-"+nines[:399]+"8..2", text(most), "ErrLarge", "ErrLarge", text(most), text(most), "ErrLarge", "1..1")
	part, tiny := tens+"/"+nines, "1/"+nines
	row(t, []string{one(enclose.Times(in("-1.."+part), in("-1.."+part))), one(enclose.Times(in("-1.."+tiny), in("1/"+tens+"..1"))), one(enclose.Times(in("0.."+tiny), in("0.."+tiny)))}, "-"+part+"..1", "-1.."+tiny, "ErrLarge")
	row(t, []string{one(enclose.Over(in("-1.."+tiny), in("1.."+tens))), one(enclose.Over(in(tiny+"..1"), in("1.."+tens)))}, "-1.."+tiny, "ErrLarge")
	row(t, []string{one(enclose.Power(in("-"+tiny+"..1"), 2)), one(enclose.Power(in("-"+tiny+"..1"), 3)), one(enclose.Power(in("-1.."+part), 4))}, "0..1", "ErrLarge", "0..1")
}

// P6.3

func TestP6_03Rows(t *testing.T) {
	for s, want := range map[string]string{
		"1..2 -1..3 -9..9": "-9..-1 1/3..9", "1..2 -1..3 -1..1/3": "-1..-1 1/3..1/3", "1..2 -1..3 -1/2..1/4": "", "1..2 -1..3 -9..-2": "-9..-2", "1..2 -1..3 1..9": "1..9", "1..2 -1..3 -1/2..2": "1/3..2",
		"-2..-1 -1..3 -9..9": "-9..-1/3 1..9", "-2..-1 -3..1 -9..9": "-9..-1 1/3..9", "1..2 -3..1 -9..9": "-9..-1/3 1..9",
		"1..2 0..3 -9..9": "1/3..9", "1..2 -3..0 -9..9": "-9..-1/3", "-2..-1 0..3 -9..9": "-9..-1/3", "-2..-1 -3..0 -9..9": "1/3..9", "1..2 0..3 -9..0": "", "1..2 -3..0 0..9": "", "1..2 0..0 -9..9": "", "-2..-1 0..0 -9..9": "",
		"0..2 -1..3 -9..9": "-9..9", "-2..0 0..0 -9..9": "-9..9", "0..0 0..0 3..3": "3..3", "0..0 1..2 -9..9": "0..0", "0..0 1..2 1..9": "", "-1..1 0..2 -5..5": "-5..5",
		"1..2 1/2..1/2 0..3": "2..3", "1..2 1..2 3..4": "", "1..2 1..2 2..4": "2..2", "-1..2 1..2 -9..9": "-1..2", "-1..2 -2..-1 -9..9": "-2..1", "2..4 -2..-1 -3..9": "-3..-1",
	} {
		x := strings.Fields(s)
		if got := list(enclose.Solve(in(x[0]), in(x[1]), in(x[2]))); got != want {
			t.Errorf("%s: %s, want %s", s, got, want)
		}
	}
}

// TestP6_03Limits has quotients that are too large, where x ends earlier.
func TestP6_03Limits(t *testing.T) {
	tiny, wide := in("-1/"+tens+"..1/"+nines), in("-"+nines+".."+nines)
	near := in(tens + ".." + nines)
	row(t, []string{list(enclose.Solve(near, tiny, wide)), list(enclose.Solve(near, in("1/"+nines+"..1/"+tens), wide)), list(enclose.Solve(near, in("1/"+nines+"..1"), wide)), list(enclose.Solve(tiny, near, wide)), list(enclose.Solve(in("1/"+nines+"..1/"+nines), in("-"+nines+".."+tens), in("1/2..1")))}, "", "", text(near), "ErrLarge", "1/2..1")
	row(t, []string{list(enclose.Solve(in("1/7..1/7"), in("-"+nines+".."+nines), in("-1..1"))), list(enclose.Solve(in("1/7..1/7"), in("-"+nines+".."+nines), in("1/3..1")))}, "ErrLarge", "1/3..1")
}

// P6.4

// TestP6_04Below: of all choices the ends alone count.
func TestP6_04Below(t *testing.T) {
	for n := range 256 {
		a, b := around(q(strconv.Itoa(n%4)), q(strconv.Itoa(n/4%4))), around(q(strconv.Itoa(n/16%4)), q(strconv.Itoa(n/64)))
		less := each(func(x, y api.Rat) api.Rat { return q(strconv.Itoa(compare(x, y))) }, a, b)
		yes, no := !slices.ContainsFunc(less, func(x api.Rat) bool { return x.Num != "-1" }), !slices.Contains(less, q("-1"))
		want := map[[2]bool]string{{true, false}: "Yes", {false, true}: "No", {false, false}: "Maybe"}[[2]bool{yes, no}]
		row(t, []string{verdict(enclose.Below(a, b))}, want)
	}
	near, nearer := q(nines[:399]+"8/"+nines), q(nines[:399]+"7/"+nines[:399]+"8")
	row(t, []string{verdict(enclose.Below(around(nearer), around(near))), verdict(enclose.Below(around(near), around(nearer))), verdict(enclose.Below(around(near, nearer), around(near))), verdict(enclose.Below(around(near), around(near))), verdict(enclose.Below(a, in("2..1"))), verdict(enclose.Below(in("2..1"), in("1..1/0")))}, "Yes", "No", "Maybe", "No", "ErrOrder", "ErrOrder")
}
