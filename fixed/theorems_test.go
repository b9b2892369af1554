package fixed_test

import (
	"slices"
	"strconv"
	"testing"

	"metewand/api"
	"metewand/fixed"
	"metewand/internal/byhand"
	"metewand/internal/outcome"
)

func numberOf(t *testing.T, f api.FixedForm, w int) api.Rat {
	t.Helper()
	return outcome.Must[api.Rat](t)(fixed.Num(f, w))
}

func wordOf(t *testing.T, f api.FixedForm, a api.Rat) int {
	t.Helper()
	return outcome.Must[int](t)(fixed.Of(f, a))
}

// P8.7

func TestP8_07Back(t *testing.T) {
	due := func(f api.FixedForm, w int) {
		t.Helper()
		a := numberOf(t, f, w)
		digits := outcome.Must[string](t)(fixed.Bits(f, w))
		want := strconv.Itoa(w)
		row(t, []string{one(fixed.Of(f, a)), rat(fixed.Error(f, a)), one(fixed.Convert(f, w, f)), one(fixed.Parse(f, digits))}, want, "0", want, want)
	}
	for f := range small(4, 2) {
		for _, w := range all(f) {
			due(f, w)
		}
	}
	for _, s := range kinds(71) {
		for range 60 {
			f := s.form()
			due(f, s.word(f))
		}
	}
}

// P8.8

// dueNear compares the error of a number within the range with the distances of all words' numbers.
func dueNear(t *testing.T, f api.FixedForm, a api.Rat) {
	t.Helper()
	wrong, e := fixed.Error(f, a)
	if e == api.ErrRange && f.Over == api.OverFail {
		return
	}
	if e != api.OK {
		t.Fatal(describe(f), written(a), outcome.Name(e))
	}
	width := step(f)
	isNearest := f.Round == api.RoundEven || f.Round == api.RoundHalf
	if compare(amount(wrong), width) >= 0 || isNearest && compare(times(whole(2), amount(wrong)), width) > 0 {
		t.Fatal(describe(f), written(a), written(wrong))
	}
	if f.Round == api.RoundDown && byhand.Negative(byhand.Minus(wrong.Num)) || f.Round == api.RoundUp && byhand.Negative(wrong.Num) {
		t.Fatal(describe(f), written(a), written(wrong))
	}
	for _, w := range all(f) {
		distance := minus(numberOf(t, f, w), a)
		isBelow := byhand.Negative(distance.Num) || distance.Num == "0"
		isAbove := !byhand.Negative(distance.Num)
		counts := isNearest || f.Round == api.RoundDown && isBelow || f.Round == api.RoundUp && isAbove
		if counts && compare(amount(distance), amount(wrong)) < 0 {
			t.Fatal(describe(f), written(a), w)
		}
	}
}

func TestP8_08Near(t *testing.T) {
	for f := range small(3, 1) {
		lo, hi, e := fixed.Range(f)
		if e != api.OK {
			t.Fatal(describe(f))
		}
		width := minus(hi, lo)
		for n := range 37 {
			dueNear(t, f, plus(lo, times(width, byhand.Reduced(strconv.Itoa(n), "36"))))
		}
	}
}

// TestP8_08Step is how large errors are, within the range of any form.
func TestP8_08Step(t *testing.T) {
	counts := map[bool]int{}
	for _, s := range kinds(81) {
		for range 100 {
			f := s.form()
			a := s.near(f)
			lo, hi, _ := fixed.Range(f)
			if compare(a, lo) < 0 || compare(a, hi) > 0 {
				continue
			}
			wrong, e := fixed.Error(f, a)
			if e != api.OK {
				t.Fatal(describe(f), written(a), outcome.Name(e))
			}
			most := step(f)
			isNearest := f.Round == api.RoundEven || f.Round == api.RoundHalf
			if isNearest {
				most = times(most, q("1/2"))
			}
			counts[isNearest]++
			if order := compare(amount(wrong), most); order > 0 || order == 0 && !isNearest {
				t.Fatal(describe(f), written(a), written(wrong))
			}
		}
	}
	if counts[true] < 30 || counts[false] < 60 {
		t.Error(counts)
	}
}

// P8.9

func TestP8_09Order(t *testing.T) {
	due := func(f api.FixedForm, a, b api.Rat) {
		t.Helper()
		if compare(a, b) > 0 {
			a, b = b, a
		}
		clip, fail := with(f, f.Round, api.OverClip), with(f, f.Round, api.OverFail)
		v, w := wordOf(t, clip, a), wordOf(t, clip, b)
		if v > w || !inside(f, strconv.Itoa(v)) || !inside(f, strconv.Itoa(w)) {
			t.Fatal(describe(f), written(a), written(b), v, w)
		}
		for x, word := range map[api.Rat]int{a: v, b: w} {
			if got, e := fixed.Of(fail, x); e == api.OK && got != word || e != api.OK && e != api.ErrRange {
				t.Fatal(describe(f), written(x), got, outcome.Name(e))
			}
		}
	}
	for f := range small(3, 0) {
		if f.Over > 0 {
			continue
		}
		for n := -40; n <= 40; n++ {
			a := byhand.Reduced(strconv.Itoa(n), "4")
			due(f, a, plus(a, q("1/4")))
			due(f, a, plus(a, q("1/100")))
		}
	}
	for _, s := range calm(91) {
		for range 100 {
			f := s.form()
			due(f, s.rat(f), s.rat(f))
			a := s.near(f)
			due(f, a, plus(a, times(step(f), byhand.Reduced(strconv.Itoa(1+s.Below(9)), "8"))))
		}
	}
}

// calm are the samples without very long numbers.
func calm(seed byhand.Chance) []*sample { return kinds(seed)[:3] }

// P8.10

func TestP8_10Mirror(t *testing.T) {
	counts := map[api.Errno]int{}
	due := func(f api.FixedForm, a api.Rat) {
		t.Helper()
		f.Signed, f.Over = true, api.OverFail
		mirror := map[int]int{api.RoundZero: api.RoundZero, api.RoundAway: api.RoundAway, api.RoundEven: api.RoundEven, api.RoundUp: api.RoundDown, api.RoundDown: api.RoundUp}
		for law, other := range mirror {
			v, e := fixed.Of(with(f, law, 0), a)
			w, g := fixed.Of(with(f, other, 0), byhand.Negated(a))
			counts[e]++
			if least := -1 << (f.Bits - 1); e == api.OK && v == least || g == api.OK && w == least { // it has no mirror
				continue
			}
			if v != -w || e != g {
				t.Fatal(describe(f), law, written(a), v, w, e, g)
			}
		}
	}
	for n := -60; n <= 60; n++ {
		due(f, byhand.Reduced(strconv.Itoa(n), "8"))
		due(f, byhand.Reduced(strconv.Itoa(n), "11"))
	}
	for _, s := range calm(101) {
		for range 100 {
			f := s.form()
			due(f, s.rat(f))
		}
	}
	if counts[api.OK] < 1000 || counts[api.ErrRange] < 100 {
		t.Error(counts)
	}
}

// P8.11

func TestP8_11Twice(t *testing.T) {
	counts := map[api.Errno]int{}
	due := func(f api.FixedForm, a api.Rat, more int) {
		t.Helper()
		for law := api.RoundDown; law <= api.RoundAway; law++ {
			f.Round = law
			fine := api.FixedForm{Bits: 62, Frac: f.Frac + more, Round: law, Signed: true}
			v, e := fixed.Of(fine, a)
			if e != api.OK {
				continue
			}
			w, g := fixed.Of(f, a)
			counts[g]++
			row(t, []string{describe(f), written(a), one(fixed.Convert(fine, v, f))}, describe(f), written(a), one(w, g))
		}
	}
	for f := range small(4, 1) {
		if f.Round > 0 {
			continue
		}
		for n := -45; n <= 45; n++ {
			due(f, byhand.Reduced(strconv.Itoa(n), "8"), 1+(n&1))
		}
	}
	for _, s := range calm(111) {
		for range 100 {
			f := s.form()
			f.Frac = min(f.Frac, 30)
			due(f, s.rat(f), 1+s.Below(10))
		}
	}
	if counts[api.OK] < 2000 || counts[api.ErrRange] < 100 {
		t.Error(counts)
	}
	// It is not so by the laws of the nearest: 7/16 goes to 1/2 first.
	fine := api.FixedForm{Bits: 8, Frac: 1, Round: api.RoundHalf}
	rough := api.FixedForm{Bits: 8, Round: api.RoundHalf}
	row(t, []string{one(fixed.Convert(fine, wordOf(t, fine, q("7/16")), rough)), one(fixed.Of(rough, q("7/16")))}, "1", "0")
}

// P8.12

func TestP8_12Wrap(t *testing.T) {
	added := func(f api.FixedForm, words []int) int {
		t.Helper()
		sum := 0
		for _, w := range words {
			sum = outcome.Must[int](t)(fixed.Apply(f, api.Add, sum, w))
		}
		return sum
	}
	left := 0
	for _, s := range kinds(121) {
		for range 100 {
			f := s.form()
			f.Over = api.OverWrap
			words := s.words(f, 1+s.Below(6))
			sum, isOut := whole(0), false
			for _, w := range words {
				sum = plus(sum, number(f, w))
				_, e := fixed.Of(with(f, f.Round, api.OverFail), sum)
				isOut = isOut || e != api.OK
			}
			if isOut {
				left++
			}
			got := added(f, words)
			ascending := slices.Sorted(slices.Values(words))
			row(t, []string{strconv.Itoa(added(f, reversed(words))), strconv.Itoa(added(f, ascending)), strconv.Itoa(added(f, reversed(ascending))), one(fixed.Of(f, sum))}, slices.Repeat([]string{strconv.Itoa(got)}, 4)...)
		}
	}
	if left < 100 {
		t.Error(left)
	}
}

// P8.13

func TestP8_13Once(t *testing.T) {
	for _, s := range kinds(131) {
		for range 60 {
			f := s.form()
			f = api.FixedForm{Bits: 62, Frac: f.Frac, Round: f.Round, Over: api.OverFail, Signed: true}
			few := api.FixedForm{Bits: 12 + s.Below(10) - min(f.Frac, 0)/40, Signed: true}
			if f.Frac < 0 { // products of numbers that are not small leave the range at once
				few.Bits = max(1, 28+f.Frac)
			}
			many := s.Below(21)
			v, w := s.words(few, many), s.words(few, many)
			got := numberOf(t, f, outcome.Must[int](t)(fixed.Dot(f, f, v, w)))
			sum := whole(0)
			for i := range v {
				product := outcome.Must[int](t)(fixed.Apply(f, api.Mul, v[i], w[i]))
				sum = plus(sum, numberOf(t, f, product))
			}
			if compare(amount(minus(got, sum)), times(step(f), whole(many+1))) > 0 {
				t.Fatal(describe(f), v, w)
			}
		}
	}
}

// P8.14

func TestP8_14Fewest(t *testing.T) {
	counts := map[bool]int{}
	for _, s := range kinds(141) {
		for range 150 {
			form := s.form()
			lo, hi := s.rat(form), s.rat(form)
			if compare(lo, hi) > 0 {
				lo, hi = hi, lo
			}
			fit, e := fixed.Fit(lo, hi, form.Frac, form.Round)
			counts[e == api.OK]++
			if e != api.OK {
				row(t, []string{outcome.Name(e)}, "ErrLarge")
				fit = api.FixedForm{Bits: 63, Frac: form.Frac, Round: form.Round}
			} else {
				middle := times(plus(lo, hi), q("1/2"))
				row(t, []string{outcome.Name(fixed.Check(fit)), strconv.FormatBool(fit.Signed)}, "OK", strconv.FormatBool(byhand.Negative(rawWord(fit, lo))))
				for _, a := range []api.Rat{lo, middle, hi} {
					wordOf(t, fit, a)
				}
			}
			if fit.Bits == 1 {
				continue
			}
			fit.Bits--
			for _, fit.Signed = range []bool{false, true} {
				_, e := fixed.Of(fit, lo)
				_, g := fixed.Of(fit, hi)
				if e == api.OK && g == api.OK {
					t.Fatal(describe(fit), written(lo), written(hi))
				}
			}
		}
	}
	if counts[true] < 200 || counts[false] < 20 {
		t.Error(counts)
	}
}
