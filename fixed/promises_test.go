package fixed_test

import (
	"math"
	"slices"
	"strconv"
	"strings"
	"testing"

	"metewand/api"
	"metewand/fixed"
	"metewand/internal/byhand"
	"metewand/internal/outcome"
)

// P8.1

func TestP8_01Check(t *testing.T) {
	valid := func(f api.FixedForm) bool {
		return f.Bits >= 1 && f.Bits <= 62 && f.Frac >= -40 && f.Frac <= 40 && f.Round >= 0 && f.Round <= 5 && f.Over >= 0 && f.Over <= 2
	}
	counts := map[api.Errno]int{}
	for _, sign := range []bool{false, true} {
		for _, n := range append(odd(), 40, -40) {
			for _, f := range []api.FixedForm{{Bits: n}, {Bits: 62, Frac: n}, {Bits: 1, Frac: -40, Round: n}, {Bits: 8, Frac: 40, Over: n}, {Bits: n, Frac: n, Round: n, Over: n}} {
				f.Signed = sign
				want := api.ErrValue
				if valid(f) {
					want = api.OK
				}
				counts[want]++
				if e := fixed.Check(f); e != want {
					t.Error(describe(f), outcome.Name(e))
				}
			}
		}
		for law := range 6 {
			for way := range 3 {
				row(t, []string{outcome.Name(fixed.Check(api.FixedForm{Bits: 62, Frac: 40, Round: law, Over: way, Signed: sign}))}, "OK")
			}
		}
	}
	if counts[api.OK] < 20 || counts[api.ErrValue] < 100 {
		t.Error(counts)
	}
	row(t, []string{outcome.Name(fixed.Check(api.FixedForm{}))}, "ErrValue")
}

func TestP8_01RangeStep(t *testing.T) {
	forms := slices.Collect(small(5, 4))
	for _, s := range kinds(1) {
		for range 60 {
			forms = append(forms, s.form())
		}
	}
	for _, f := range forms {
		least, most := ends(f)
		lo, hi := times(q(least), step(f)), times(q(most), step(f))
		row(t, []string{span(f), rat(fixed.Step(f))}, written(lo)+", "+written(hi), written(step(f)))
	}
	row(t, []string{span(api.FixedForm{Bits: 1}), span(api.FixedForm{Bits: 1, Signed: true}), span(api.FixedForm{Bits: 62}), span(api.FixedForm{Bits: 62, Signed: true}), span(api.FixedForm{Bits: 2, Frac: -40}), rat(fixed.Step(api.FixedForm{Bits: 1, Frac: 40, Signed: true})), rat(fixed.Step(api.FixedForm{Bits: 1, Frac: -40}))}, "0, 1", "-1, 0", "0, 4611686018427387903", "-2305843009213693952, 2305843009213693951", "0, 3298534883328", "1/1099511627776", "1099511627776")
	for _, f := range []api.FixedForm{{}, {Bits: 63}, {Bits: 1, Frac: 41}, {Bits: 1, Round: 6}, {Bits: 1, Over: 3}, {Bits: 1, Over: -1, Signed: true}} {
		row(t, []string{span(f), rat(fixed.Step(f))}, "ErrValue", "ErrValue")
	}
}

// P8.2

func TestP8_02Num(t *testing.T) {
	for f := range small(4, 2) {
		for _, w := range all(f) {
			row(t, []string{rat(fixed.Num(f, w))}, written(number(f, w)))
		}
	}
	for _, s := range kinds(2) {
		for range 60 {
			f := s.form()
			w := s.word(f)
			row(t, []string{rat(fixed.Num(f, w))}, written(number(f, w)))
		}
	}
}

// TestP8_02NoWord is ErrRange for what is no word, with each law, each way and each exponent.
func TestP8_02NoWord(t *testing.T) {
	counts := map[bool]int{}
	for _, s := range kinds(3) {
		for range 40 {
			f := s.form()
			for _, w := range append(odd(), s.word(f)) {
				is := inside(f, strconv.Itoa(w))
				_, e := fixed.Num(f, w)
				counts[is]++
				if is != (e == api.OK) || e != api.OK && e != api.ErrRange {
					t.Error(describe(f), w, outcome.Name(e))
				}
			}
		}
	}
	if counts[true] < 500 || counts[false] < 500 {
		t.Error(counts)
	}
	row(t, []string{rat(fixed.Num(f, -9)), rat(fixed.Num(c, 8)), rat(fixed.Num(w, 8)), rat(fixed.Num(g, -1)), rat(fixed.Num(g, 8)), rat(fixed.Num(g, math.MinInt)), rat(fixed.Num(w, math.MaxInt)), rat(fixed.Num(f, 16))}, "ErrRange", "ErrRange", "ErrRange", "ErrRange", "ErrRange", "ErrRange", "ErrRange", "ErrRange")
}

// dueWord compares Of, and Error, with what is computed by hand.
func dueWord(t *testing.T, f api.FixedForm, a api.Rat) {
	t.Helper()
	want, e := word(f, a)
	row(t, []string{describe(f), byhand.PreviewRat(a), one(fixed.Of(f, a))}, describe(f), byhand.PreviewRat(a), outcome.Of(e, want))
	got, gotE := fixed.Error(f, a)
	wrong := minus(times(q(want), step(f)), a)
	switch {
	case e == api.OK && !byhand.Fits(wrong):
		e, wrong = api.ErrLarge, api.Rat{}
	case e != api.OK:
		wrong = api.Rat{}
	}
	if got != wrong || gotE != e {
		t.Error(describe(f), byhand.PreviewRat(a), byhand.PreviewRat(got), outcome.Name(gotE))
	}
}

// TestP8_02Small goes through all small forms and all halves, thirds and quarters around their words.
func TestP8_02Small(t *testing.T) {
	for f := range small(3, 1) {
		for n := -60; n <= 60; n++ {
			a := byhand.Reduced(strconv.Itoa(n), "12")
			dueWord(t, f, times(times(a, whole(3)), step(f)))
		}
	}
}

func TestP8_02Of(t *testing.T) {
	counts := map[api.Errno]int{}
	for _, s := range kinds(4) {
		for range 300 {
			f := s.form()
			a := s.rat(f)
			dueWord(t, f, a)
			_, e := fixed.Of(f, a)
			counts[e]++
		}
	}
	if counts[api.OK] < 500 || counts[api.ErrRange] < 100 {
		t.Error(counts)
	}
	// Numbers as large or as small as can be: what comes on the way has more digits than a result may have.
	for f := range small(1, 1) {
		for _, a := range []string{nines, "-" + nines, tens, "-" + tens, "1/" + nines, "-1/" + nines, "1/" + tens, nines + "/" + tens, "-" + tens + "/" + nines} {
			dueWord(t, f, q(a))
			dueWord(t, api.FixedForm{Bits: 62, Frac: 40 * f.Frac, Round: f.Round, Over: f.Over, Signed: f.Signed}, q(a))
		}
	}
	row(t, []string{of(by(api.RoundUp), "1/"+nines), of(by(api.RoundAway), "-1/"+nines), of(c, nines), of(c, "-"+nines), of(f, nines), of(w, tens), of(w, "-"+nines), of(g, "1/2"), of(g, "-1/2"), of(g, "-3/2"), of(f, "1/4"), of(f, "-1/4"), of(f, "3/4"), of(f, "-3/4"), of(f, "0")}, "1", "-1", "7", "-8", "ErrRange", "0", "2", "1", "0", "0", "0", "0", "2", "-2", "0")
}

// TestP8_02Ends is at which numbers the range of a form ends, by each law.
func TestP8_02Ends(t *testing.T) {
	for law, want := range []string{"-8 ErrRange 7 7 ErrRange", "-8 -8 7 ErrRange ErrRange", "-8 -8 7 7 ErrRange", "-8 ErrRange 7 ErrRange ErrRange", "-8 -8 7 7 ErrRange", "-8 -8 7 7 ErrRange"} {
		var got []string
		for _, a := range []string{"-4", "-33/8", "7/2", "29/8", "4"} {
			got = append(got, of(by(law), a))
		}
		row(t, got, strings.Fields(want)...)
	}
	// Halfway between the last word and what would be the next one: these ones are even.
	row(t, []string{of(by(api.RoundEven), "15/4"), of(by(api.RoundHalf), "15/4"), of(by(api.RoundEven), "-17/4"), of(by(api.RoundHalf), "-17/4"), of(with(f, api.RoundEven, api.OverWrap), "15/4"), of(with(f, api.RoundHalf, api.OverClip), "15/4"), of(g, "15/2"), of(with(g, api.RoundHalf, api.OverWrap), "15/2"), of(with(g, api.RoundDown, api.OverWrap), "-1/9"), of(with(g, api.RoundDown, api.OverFail), "-1/9"), of(with(g, api.RoundZero, api.OverFail), "-8/9"), of(with(g, api.RoundZero, api.OverFail), "-1")}, "ErrRange", "ErrRange", "-8", "-8", "-8", "7", "7", "0", "7", "ErrRange", "0", "ErrRange")
}

func TestP8_02Wrap(t *testing.T) {
	wide := api.FixedForm{Bits: 62, Over: api.OverWrap}
	signed := api.FixedForm{Bits: 62, Over: api.OverWrap, Signed: true}
	row(t, []string{of(wide, power(62).Num), of(wide, power(64).Num), of(wide, byhand.Add(power(1000).Num, "5")), of(wide, "-1"), of(signed, power(61).Num), of(signed, byhand.Add(power(62).Num, "-1")), of(signed, "-"+byhand.Add(power(61).Num, "1")), of(signed, "-"+power(63).Num), of(signed, power(63).Num)}, "0", "0", "5", "4611686018427387903", "-2305843009213693952", "-1", "2305843009213693951", "0", "0")
}

func TestP8_02Error(t *testing.T) {
	fine := api.FixedForm{Bits: 4, Frac: 40, Round: api.RoundUp}
	row(t, []string{rat(fixed.Error(by(api.RoundUp), q("5/4"))), rat(fixed.Error(by(api.RoundDown), q("-5/4"))), rat(fixed.Error(f, q("3/2"))), rat(fixed.Error(f, q("4"))), rat(fixed.Error(c, q("-100"))), rat(fixed.Error(w, q("-101"))), rat(fixed.Error(w, q("-"+nines))), rat(fixed.Error(c, q(nines))), rat(fixed.Error(f, q(nines))), rat(fixed.Error(c, q("-"+nines))), rat(fixed.Error(c, q("-"+nines[:399]+"6"))), rat(fixed.Error(api.FixedForm{Bits: 4, Over: api.OverWrap, Frac: -4}, q("-"+nines))), rat(fixed.Error(fine, q("1/"+nines)))}, "1/4", "-1/4", "0", "ErrRange", "96", "104", "ErrLarge", "ErrLarge", "ErrRange", byhand.Add(nines, "-4"), byhand.Add(nines, "-7"), nines, "ErrLarge")
}

func TestP8_02Numbers(t *testing.T) {
	for a, want := range map[string]string{"": "ErrForm", "2/4": "ErrForm", "-0": "ErrForm", "1/0": "ErrForm", "1/-1": "ErrForm", "x": "ErrForm", over: "ErrLarge", "1/" + over: "ErrLarge"} {
		for _, f := range []api.FixedForm{f, c, w, g} {
			row(t, []string{of(f, a), rat(fixed.Error(f, q(a)))}, want, want)
		}
	}
	row(t, []string{one(fixed.Of(f, api.Rat{})), rat(fixed.Error(c, api.Rat{}))}, "ErrForm", "ErrForm")
}

// P8.3

// operations are those that Apply has, by hand.
func operations(op int, a, b api.Rat) (api.Rat, api.Errno) {
	switch op {
	case api.Add:
		return plus(a, b), api.OK
	case api.Sub:
		return minus(a, b), api.OK
	case api.Mul:
		return times(a, b), api.OK
	}
	if b.Num == "0" {
		return api.Rat{}, api.ErrZero
	}
	return divided(a, b), api.OK
}

// dueApply compares all operations with what is computed by hand.
func dueApply(t *testing.T, f api.FixedForm, v, w int) {
	t.Helper()
	for _, op := range []int{api.Add, api.Sub, api.Mul, api.Div} {
		a, e := operations(op, number(f, v), number(f, w))
		want := ""
		if e == api.OK {
			want, e = word(f, a)
		}
		row(t, []string{describe(f), one(v, 0), one(op, 0), one(w, 0), one(fixed.Apply(f, op, v, w))}, describe(f), one(v, 0), one(op, 0), one(w, 0), outcome.Of(e, want))
	}
}

func TestP8_03Apply(t *testing.T) {
	for f := range small(3, 1) {
		for _, v := range all(f) {
			for _, w := range all(f) {
				dueApply(t, f, v, w)
			}
		}
	}
	for _, s := range kinds(5) {
		for range 100 {
			f := s.form()
			dueApply(t, f, s.word(f), s.word(f))
		}
	}
	row(t, []string{one(fixed.Apply(w, api.Div, -8, -1)), one(fixed.Apply(f, api.Div, -8, -1)), one(fixed.Apply(c, api.Sub, -8, 7)), one(fixed.Apply(w, api.Sub, -8, 7)), one(fixed.Apply(g, api.Sub, 0, 7)), one(fixed.Apply(g, api.Div, 1, 2)), one(fixed.Apply(g, api.Div, 1, 3))}, "0", "ErrRange", "-8", "1", "0", "1", "0")
}

func TestP8_03Errors(t *testing.T) {
	bad := api.FixedForm{Bits: 4, Frac: 41}
	row(t, []string{one(fixed.Apply(bad, api.Pow, 99, 99)), one(fixed.Apply(f, api.Pow, 99, 99)), one(fixed.Apply(f, api.Add, 8, 0)), one(fixed.Apply(f, api.Add, 0, 8)), one(fixed.Apply(f, api.Add, 0, -9)), one(fixed.Apply(f, api.Div, 8, 0)), one(fixed.Apply(f, api.Div, 0, 8)), one(fixed.Apply(f, api.Div, 0, 0)), one(fixed.Apply(c, api.Div, 7, 0)), one(fixed.Apply(w, api.Div, -8, 0)), one(fixed.Apply(w, api.Add, 8, 0)), one(fixed.Apply(c, api.Mul, -9, 0)), one(fixed.Apply(g, api.Sub, 0, -1))}, "ErrValue", "ErrKind", "ErrRange", "ErrRange", "ErrRange", "ErrRange", "ErrRange", "ErrZero", "ErrZero", "ErrZero", "ErrRange", "ErrRange", "ErrRange")
	known := map[int]bool{api.Add: true, api.Sub: true, api.Mul: true, api.Div: true}
	for _, op := range append(odd(), api.Lit, api.Neg, api.Pow, 2, 3, 4, 9, 10, 11, 12) {
		if known[op] {
			continue
		}
		row(t, []string{one(fixed.Apply(f, op, 1, 1)), one(fixed.Apply(f, op, 8, 1)), one(fixed.Apply(w, op, 1, 0))}, "ErrKind", "ErrKind", "ErrKind")
	}
}

func TestP8_03Convert(t *testing.T) {
	due := func(f api.FixedForm, w int, g api.FixedForm) {
		t.Helper()
		want, e := word(g, number(f, w))
		row(t, []string{describe(f), one(w, 0), describe(g), one(fixed.Convert(f, w, g))}, describe(f), one(w, 0), describe(g), outcome.Of(e, want))
	}
	for f := range small(3, 1) {
		if f.Round+f.Over > 0 { // the number of a word does not depend on them
			continue
		}
		for g := range small(3, 1) {
			for _, w := range all(f) {
				due(f, w, g)
			}
		}
	}
	for _, s := range kinds(6) {
		for range 100 {
			f := s.form()
			due(f, s.word(f), s.form())
		}
	}
	bad := api.FixedForm{Bits: 4, Over: 3}
	row(t, []string{one(fixed.Convert(bad, 99, f)), one(fixed.Convert(f, 99, bad)), one(fixed.Convert(f, 8, c)), one(fixed.Convert(c, -9, c)), one(fixed.Convert(w, 8, c)), one(fixed.Convert(g, -1, w)), one(fixed.Convert(f, -1, with(g, 0, 0))), one(fixed.Convert(f, 7, with(g, api.RoundEven, 0))), one(fixed.Convert(f, 7, api.FixedForm{Bits: 2})), one(fixed.Convert(g, 7, f)), one(fixed.Convert(g, 7, c)), one(fixed.Convert(g, 7, w)), one(fixed.Convert(api.FixedForm{Bits: 1, Frac: -40}, 1, api.FixedForm{Bits: 62, Frac: 40, Over: api.OverClip})), one(fixed.Convert(api.FixedForm{Bits: 62, Frac: 40, Signed: true}, -1<<61, api.FixedForm{Bits: 62, Frac: -40, Round: api.RoundEven, Signed: true}))}, "ErrValue", "ErrValue", "ErrRange", "ErrRange", "ErrRange", "ErrRange", "ErrRange", "4", "3", "ErrRange", "7", "-2", "4611686018427387903", "0")
}

// P8.4

// dotByHand returns the sum of the products of the numbers.
func dotByHand(f api.FixedForm, v, w []int) api.Rat {
	sum := whole(0)
	for i := range v {
		sum = plus(sum, times(number(f, v[i]), number(f, w[i])))
	}
	return sum
}

func (s *sample) words(f api.FixedForm, many int) []int {
	var list []int
	for range many {
		list = append(list, s.word(f))
	}
	return list
}

func TestP8_04Dot(t *testing.T) {
	for _, s := range kinds(7) {
		for range 80 {
			f, g := s.form(), s.form()
			if s.Below(2) == 0 { // so that the sum is often within the range
				g = api.FixedForm{Bits: 62, Frac: max(min(2*f.Frac-s.Below(4), 40), -40), Round: g.Round, Over: g.Over, Signed: true}
				f.Bits = min(f.Bits, 28)
			}
			many := s.Below(21)
			v, w := s.words(f, many), s.words(f, many)
			want, e := word(g, dotByHand(f, v, w))
			row(t, []string{describe(f), describe(g), one(fixed.Dot(f, g, v, w))}, describe(f), describe(g), outcome.Of(e, want))
		}
	}
	for _, v := range all(f) { // one product is that of Apply, and none is 0
		row(t, []string{dot(f, f, "", ""), dot(f, g, "", ""), one(fixed.Dot(f, f, []int{v}, []int{3}))}, "0", "0", one(fixed.Apply(f, api.Mul, v, 3)))
	}
	row(t, []string{dot(f, f, "1 1", "1 1"), dot(f, f, "1 1 1", "1 1 1"), dot(f, f, "7 7", "7 7"), dot(f, c, "7 7", "7 7"), dot(f, w, "7 7", "7 7"), dot(f, f, "7 7 -7", "7 7 7"), dot(f, f, "7 7 -7 -7 1", "7 7 7 7 2"), dot(g, f, "1 2", "1 1"), dot(g, f, "1 3", "1 1"), dot(w, f, "7 7", "7 7")}, "1", "2", "ErrRange", "7", "1", "ErrRange", "1", "6", "ErrRange", "ErrRange")
}

func TestP8_04Errors(t *testing.T) {
	bad := api.FixedForm{Bits: 4, Round: 6}
	long, most := strings.Repeat("9 ", 21), strings.Repeat("1 ", 20)
	row(t, []string{dot(bad, f, long, ""), dot(f, bad, long, ""), dot(f, f, long, ""), dot(f, f, "", long), dot(f, f, long, long), dot(f, f, long, "9"), dot(f, f, most, most), dot(f, f, most, most[2:]), dot(f, f, most[2:], most), dot(f, f, "9", ""), dot(f, f, "", "9"), dot(f, f, "9", "9 9")}, "ErrValue", "ErrValue", "ErrMany", "ErrMany", "ErrMany", "ErrMany", one(fixed.Of(f, q("5"))), "ErrShape", "ErrShape", "ErrShape", "ErrShape", "ErrShape")
	row(t, []string{dot(f, f, "8", "0"), dot(f, f, "0", "8"), dot(f, f, "0 -9", "0 0"), dot(f, f, "0 0", "0 -9"), dot(w, w, "8", "0"), dot(c, c, "0", "8"), dot(g, f, "-1", "0"), dot(g, f, "0", "-1"), dot(f, g, "-1", "-1"), dot(g, f, "0", "8"), dot(f, g, most, most), one(fixed.Dot(f, f, []int{math.MaxInt}, []int{0})), one(fixed.Dot(f, f, []int{0}, []int{math.MinInt}))}, "ErrRange", "ErrRange", "ErrRange", "ErrRange", "ErrRange", "ErrRange", "ErrRange", "ErrRange", "0", "ErrRange", "5", "ErrRange", "ErrRange")
}

// P8.5

// fitByHand tries all numbers of bits.
func fitByHand(lo, hi api.Rat, frac, round int) (api.FixedForm, api.Errno) {
	f := api.FixedForm{Bits: 1, Frac: frac, Round: round}
	least, most := rawWord(f, lo), rawWord(f, hi)
	f.Signed = byhand.Negative(least)
	for ; f.Bits <= 62; f.Bits++ {
		if inside(f, least) && inside(f, most) {
			return f, api.OK
		}
	}
	return api.FixedForm{}, api.ErrLarge
}

func TestP8_05Fit(t *testing.T) {
	counts := map[api.Errno]int{}
	due := func(lo, hi api.Rat, frac, round int) {
		t.Helper()
		want, e := fitByHand(lo, hi, frac, round)
		got, gotE := fixed.Fit(lo, hi, frac, round)
		counts[e]++
		if got != want || gotE != e {
			t.Error(byhand.PreviewRat(lo), byhand.PreviewRat(hi), frac, round, describe(got), outcome.Name(gotE))
		}
	}
	for round := range 6 {
		for n := -36; n <= 36; n++ {
			for m := n; m <= 36; m += 1 + (m-n)/4 {
				due(byhand.Reduced(strconv.Itoa(n), "4"), byhand.Reduced(strconv.Itoa(m), "4"), 0, round)
			}
		}
	}
	for _, s := range kinds(8) {
		for range 200 {
			f := s.form()
			lo, hi := s.rat(f), s.rat(f)
			if compare(lo, hi) > 0 {
				lo, hi = hi, lo
			}
			due(lo, hi, f.Frac, f.Round)
		}
	}
	if counts[api.OK] < 1000 || counts[api.ErrLarge] < 50 {
		t.Error(counts)
	}
}

func TestP8_05Ends(t *testing.T) {
	half, all := power(61).Num, power(62).Num
	below := func(a string) string { return byhand.Add(a, "-1") }
	row(t, []string{fit("0", "0", 0, 0), fit("-1", "-1", 0, 0), fit("-1", "0", 0, 0), fit("-1", "1", 0, 0), fit("1", "1", 0, 0), fit("0", "2", 0, 0), fit("-2", "-2", 0, 0), fit("-3", "-3", 0, 0)}, "1 Bits, Frac 0", "1 Bits, Frac 0, Signed", "1 Bits, Frac 0, Signed", "2 Bits, Frac 0, Signed", "1 Bits, Frac 0", "2 Bits, Frac 0", "2 Bits, Frac 0, Signed", "3 Bits, Frac 0, Signed")
	row(t, []string{fit("0", below(all), 0, 0), fit("0", all, 0, 0), fit("-"+half, below(half), 0, 0), fit("-1", half, 0, 0), fit("-"+byhand.Add(half, "1"), "0", 0, 0), fit("0", nines, 0, 0), fit("-"+nines, "0", 0, 0), fit("-"+nines, nines, -40, 0), fit("0", power(102).Num, -40, 0), fit("0", byhand.Add(power(102).Num, "-1"), -40, 0), fit("0", power(22).Num, 40, 0), fit("0", written(minus(power(22), power(-40))), 40, 0), fit("0", "1/"+nines, 40, api.RoundUp), fit("-1/"+nines, "0", -40, api.RoundDown), fit("-1/"+nines, "0", -40, api.RoundZero)}, "62 Bits, Frac 0", "ErrLarge", "62 Bits, Frac 0, Signed", "ErrLarge", "ErrLarge", "ErrLarge", "ErrLarge", "ErrLarge", "ErrLarge", "62 Bits, Frac -40", "ErrLarge", "62 Bits, Frac 40", "1 Bits, Frac 40, Round 1", "1 Bits, Frac -40, Signed", "1 Bits, Frac -40, Round 2")
	// The raw words of the ends count, not the ends.
	row(t, []string{fit("-1/2", "7", 0, api.RoundHalf), fit("-1/2", "7", 0, api.RoundEven), fit("-1/2", "7", 0, api.RoundAway), fit("-1/3", "7", 0, api.RoundAway), fit("0", "15/2", 0, api.RoundHalf), fit("0", "13/2", 0, api.RoundEven), fit("0", "7/2", 0, api.RoundZero), fit("0", "7/2", 0, api.RoundUp)}, "3 Bits, Frac 0, Round 5", "3 Bits, Frac 0, Round 4", "4 Bits, Frac 0, Signed, Round 3", "4 Bits, Frac 0, Signed, Round 3", "4 Bits, Frac 0, Round 5", "3 Bits, Frac 0, Round 4", "2 Bits, Frac 0, Round 2", "3 Bits, Frac 0, Round 1")
}

func TestP8_05Errors(t *testing.T) {
	row(t, []string{fit("2/4", over, 99, 99), fit(over, "2/4", 99, 99), fit("3", "2/4", 99, 99), fit("3", over, 99, 99), fit("3", "2", 99, 99), fit("-1", "-"+nines, 41, -1), fit("2", "2", 41, 0), fit("2", "2", -41, 0), fit("2", "2", 40, 6), fit("2", "2", -40, -1), fit("0", nines, 41, 0), fit("0", nines, 0, 6), fit("0", nines, 0, 5), fit("2", "2", math.MaxInt, 0), fit("2", "2", math.MinInt, 0), fit("2", "2", 0, math.MaxInt), fit("2", "2", 0, math.MinInt), fit("1/3", "1/4", 0, 0), fit("-1/4", "-1/3", 0, 0)}, "ErrForm", "ErrLarge", "ErrForm", "ErrLarge", "ErrOrder", "ErrOrder", "ErrValue", "ErrValue", "ErrValue", "ErrValue", "ErrValue", "ErrValue", "ErrLarge", "ErrValue", "ErrValue", "ErrValue", "ErrValue", "ErrOrder", "ErrOrder")
}

// P8.6

func TestP8_06Bits(t *testing.T) {
	due := func(f api.FixedForm, w int) {
		t.Helper()
		digits := binary(f, w)
		row(t, []string{describe(f), text(fixed.Bits(f, w)), one(fixed.Parse(f, digits))}, describe(f), digits, strconv.Itoa(w))
	}
	for f := range small(5, 0) {
		for _, w := range all(f) {
			due(f, w)
		}
	}
	for _, s := range kinds(9) {
		for range 60 {
			f := s.form()
			due(f, s.word(f))
		}
	}
	ones := strings.Repeat("1", 62)
	row(t, []string{one(fixed.Parse(api.FixedForm{Bits: 62}, ones)), one(fixed.Parse(api.FixedForm{Bits: 62, Signed: true}, ones)), one(fixed.Parse(api.FixedForm{Bits: 62, Signed: true}, "0"+ones[1:])), one(fixed.Parse(api.FixedForm{Bits: 1, Signed: true}, "1")), one(fixed.Parse(c, "1000")), one(fixed.Parse(w, "0111")), one(fixed.Parse(g, "111"))}, "4611686018427387903", "-1", "2305843009213693951", "-1", "-8", "7", "7")
}

func TestP8_06Errors(t *testing.T) {
	for _, s := range []string{"", "1", "111", "11111", "1112", "2111", "11 1", " 111", "111 ", "-111", "+111", "1.11", "é11", "1é1", "11é", "111\x00", "\xff111", "11\xff1", "111/", "111:", "１１１１", "१111", "111\n", "0b11", strings.Repeat("1", 64), strings.Repeat("0", 5000)} {
		row(t, []string{s, one(fixed.Parse(f, s)), one(fixed.Parse(w, s)), one(fixed.Parse(api.FixedForm{Bits: 63}, s))}, s, "ErrForm", "ErrForm", "ErrValue")
	}
	for n := range 256 {
		want := map[byte]string{'0': "0", '1': "1"}[byte(n)]
		if want == "" {
			want = "ErrForm"
		}
		row(t, []string{one(fixed.Parse(api.FixedForm{Bits: 1}, string([]byte{byte(n)})))}, want)
	}
	row(t, []string{text(fixed.Bits(f, 8)), text(fixed.Bits(w, -9)), text(fixed.Bits(c, 15)), text(fixed.Bits(g, -1)), text(fixed.Bits(g, 8)), text(fixed.Bits(f, math.MinInt)), text(fixed.Bits(api.FixedForm{Bits: 0}, 0)), text(fixed.Bits(api.FixedForm{Bits: 4, Round: -1}, 99))}, "ErrRange", "ErrRange", "ErrRange", "ErrRange", "ErrRange", "ErrRange", "ErrValue", "ErrValue")
}
