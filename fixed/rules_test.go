package fixed_test

import (
	"math"
	"slices"
	"strings"
	"sync"
	"testing"

	"metewand/api"
	"metewand/fixed"
	"metewand/internal/byhand"
	"metewand/internal/outcome"
	"metewand/ratio"
)

// oddNumbers are valid numbers, and others.
func oddNumbers() []api.Rat {
	return []api.Rat{{}, q("-"), q("0"), q("-0"), q("1"), q("-1"), q("2"), q("1/3"), q("2/4"), q("1/0"), q("1/-1"), q("\xff"), q(nines), q("-1/" + nines), q("-" + nines + "/" + tens), q(over), q("1/" + over), q(strings.Repeat("z", 3000)), q("9223372036854775808")}
}

func oddTexts() []string {
	return []string{"", "0", "1", "0110", "1111", "é11", "\xff\xff\xff\xff", "0112", strings.Repeat("1", 62), strings.Repeat("10", 9000)}
}

// oneOf returns one of a list.
func oneOf[T any](s *sample, list []T) T { return list[s.Below(len(list))] }

// oddForm returns a form of any kind; each of its parts is often wrong.
func (s *sample) oddForm() api.FixedForm {
	f := s.form()
	for _, part := range []*int{&f.Bits, &f.Frac, &f.Round, &f.Over} {
		if s.Below(8) == 0 {
			*part = oneOf(s, odd())
		}
	}
	return f
}

// oddWords returns a list of ints, some of which are words.
func (s *sample) oddWords(f api.FixedForm) []int {
	var words []int
	for range oneOf(s, []int{0, 1, 2, 20, 21, 300}) {
		w := 0
		if s.Below(8) == 0 {
			w = oneOf(s, odd())
		}
		words = append(words, w)
	}
	return words
}

// arguments are those of all functions.
type arguments struct {
	f, g        api.FixedForm
	a, b        api.Rat
	n, m, op    int
	v, w        []int
	frac, round int
	digits      string
}

// outcomes calls all functions, and returns what they return.
func (x arguments) outcomes() []string {
	return []string{
		outcome.Name(fixed.Check(x.f)), span(x.f), rat(fixed.Step(x.f)),
		rat(fixed.Num(x.f, x.n)), one(fixed.Of(x.f, x.a)), rat(fixed.Error(x.f, x.a)),
		one(fixed.Apply(x.f, x.op, x.n, x.m)), one(fixed.Convert(x.f, x.n, x.g)), one(fixed.Dot(x.f, x.g, x.v, x.w)),
		shape(fixed.Fit(x.a, x.b, x.frac, x.round)), text(fixed.Bits(x.f, x.n)), one(fixed.Parse(x.f, x.digits)),
	}
}

func (s *sample) arguments() arguments {
	ops := []int{api.Add, api.Sub, api.Mul, api.Div}
	if s.Below(4) == 0 {
		ops = append(odd(), api.Lit, api.Neg, api.Pow)
	}
	f, g := s.oddForm(), s.oddForm()
	return arguments{f, g, oneOf(s, oddNumbers()), oneOf(s, oddNumbers()), oneOf(s, odd()), oneOf(s, odd()), oneOf(s, ops), s.oddWords(f), s.oddWords(f), oneOf(s, odd()), oneOf(s, odd()), oneOf(s, oddTexts())}
}

// TestP1NoPanic: each function returns, whatever its arguments are.
func TestP1NoPanic(t *testing.T) {
	s := &sample{201, 0}
	counts := map[bool]int{}
	for range 2000 {
		x := s.arguments()
		for _, got := range x.outcomes() {
			counts[strings.HasPrefix(got, "Err")]++
			if got == outcome.Name(api.ErrLimit) {
				t.Fatal(x)
			}
		}
	}
	if counts[true] < 5000 || counts[false] < 1000 {
		t.Error(counts)
	}
}

// wanted returns the errors of the functions that come before those of their results: the first one of each list.
func (x arguments) wanted() []string {
	form, other := fixed.Check(x.f), fixed.Check(x.g)
	isWord := func(w int) api.Errno {
		_, e := fixed.Num(x.f, w)
		return e
	}
	first := func(errors ...api.Errno) string {
		for _, e := range errors {
			if e != api.OK {
				return outcome.Name(e)
			}
		}
		return "OK"
	}
	kind, order, parts, many, same := api.OK, api.OK, api.OK, api.OK, api.OK
	if x.op != api.Add && x.op != api.Sub && x.op != api.Mul && x.op != api.Div {
		kind = api.ErrKind
	}
	low, high := ratio.Check(x.a), ratio.Check(x.b)
	if low == api.OK && high == api.OK && compare(x.a, x.b) > 0 {
		order = api.ErrOrder
	}
	if x.frac < -40 || x.frac > 40 || x.round < 0 || x.round > 5 {
		parts = api.ErrValue
	}
	if len(x.v) > 20 || len(x.w) > 20 {
		many = api.ErrMany
	}
	if len(x.v) != len(x.w) {
		same = api.ErrShape
	}
	dot := []api.Errno{form, other, many, same}
	for _, w := range slices.Concat(x.v, x.w) {
		dot = append(dot, isWord(w))
	}
	digits := api.OK
	if len(x.digits) != x.f.Bits || strings.Trim(x.digits, "01") != "" {
		digits = api.ErrForm
	}
	return []string{
		first(form), first(form), first(form),
		first(form, isWord(x.n)), first(form, low), first(form, low),
		first(form, kind, isWord(x.n), isWord(x.m)), first(form, other, isWord(x.n)), first(dot...),
		first(low, high, order, parts), first(form, isWord(x.n)), first(form, digits),
	}
}

// TestR1 is the order of errors.
func TestR1(t *testing.T) {
	s := &sample{202, 0}
	counts := map[string]int{}
	for range 1500 {
		x := s.arguments()
		got, wanted := x.outcomes(), x.wanted()
		for i, want := range wanted {
			counts[want]++
			if want == "OK" {
				// What is left are the errors of results.
				if late := slices.Contains([]string{"ErrRange", "ErrZero", "ErrLarge"}, got[i]); late || !strings.HasPrefix(got[i], "Err") {
					continue
				}
			}
			if got[i] != want {
				t.Fatal(i, x, got[i], want)
			}
		}
	}
	for _, name := range []string{"OK", "ErrForm", "ErrValue", "ErrRange", "ErrOrder", "ErrMany", "ErrKind", "ErrShape", "ErrLarge"} {
		if counts[name] < 50 {
			t.Error(name, counts[name])
		}
	}
}

// TestR1Dot is that all elements are checked before the sum, and those of v before those of w, whatever they are.
func TestR1Dot(t *testing.T) {
	bad := api.FixedForm{Bits: 4, Over: -1}
	row(t, []string{one(fixed.Dot(bad, api.FixedForm{}, make([]int, 21), nil)), dot(f, f, "7 7 9", "7 7 0"), dot(f, f, "7 7 0", "7 7 9"), dot(f, c, "7 7 0", "7 7 9")}, "ErrValue", "ErrRange", "ErrRange", "ErrRange")
}

// TestR2 is that nothing is remembered between calls, and that calls at the same time do not disturb each other.
func TestR2(t *testing.T) {
	s := &sample{203, 30}
	var calls []arguments
	for range 30 {
		calls = append(calls, s.arguments())
	}
	of := func() []string {
		var all []string
		for _, x := range calls {
			all = append(all, x.outcomes()...)
		}
		return all
	}
	want := of()
	var all sync.WaitGroup
	for range 8 {
		all.Go(func() {
			for range 10 {
				if got := of(); !slices.Equal(got, want) {
					t.Errorf("got %q, want %q", got, want)
				}
			}
		})
	}
	all.Wait()
}

// TestR3 is that results are zero values if there is an error.
func TestR3(t *testing.T) {
	s := &sample{204, 0}
	wrong := 0
	zero := func(isZero bool, e api.Errno) {
		t.Helper()
		if e == api.OK {
			return
		}
		wrong++
		if !isZero {
			t.Error(e)
		}
	}
	number := func(a api.Rat, e api.Errno) { t.Helper(); zero(a == api.Rat{}, e) }
	word := func(w int, e api.Errno) { t.Helper(); zero(w == 0, e) }
	for range 500 {
		x := s.arguments()
		lo, hi, e := fixed.Range(x.f)
		zero(lo == api.Rat{} && hi == api.Rat{}, e)
		number(fixed.Step(x.f))
		number(fixed.Num(x.f, x.n))
		word(fixed.Of(x.f, x.a))
		number(fixed.Error(x.f, x.a))
		word(fixed.Apply(x.f, x.op, x.n, x.m))
		word(fixed.Convert(x.f, x.n, x.g))
		word(fixed.Dot(x.f, x.g, x.v, x.w))
		form, e := fixed.Fit(x.a, x.b, x.frac, x.round)
		zero(form == api.FixedForm{}, e)
		digits, e := fixed.Bits(x.f, x.n)
		zero(digits == "", e)
		word(fixed.Parse(x.f, x.digits))
	}
	if wrong < 2000 {
		t.Error(wrong)
	}
	number(fixed.Error(api.FixedForm{Bits: 4, Frac: 40, Round: api.RoundUp}, q("1/"+nines)))
	word(fixed.Apply(f, api.Div, 3, 0))
	word(fixed.Parse(f, "1112"))
	form, e := fixed.Fit(q("-1"), q(nines), 0, 0)
	zero(form == api.FixedForm{}, e)
}

// TestR4 is that arguments are not changed, and that a nil slice is an empty one.
func TestR4(t *testing.T) {
	v, w := list("7 -8 3"), list("1 1 -3")
	row(t, []string{one(fixed.Dot(f, f, v, w)), one(fixed.Dot(f, c, v, v)), dot(f, f, "7 -8 3", "1 1 -3")}, "-5", "7", "-5")
	if !slices.Equal(v, list("7 -8 3")) || !slices.Equal(w, list("1 1 -3")) {
		t.Error(v, w)
	}
	row(t, []string{one(fixed.Dot(f, f, nil, []int{})), one(fixed.Dot(f, f, []int{}, nil)), one(fixed.Dot(f, f, []int{}, []int{1})), one(fixed.Dot(f, f, nil, []int{1}))}, "0", "0", "ErrShape", "ErrShape")
}

// TestR7 is that numbers have to be in lowest terms, and that results are.
func TestR7(t *testing.T) {
	for _, s := range []string{"2/4", "-6/3", "0/7", "3/1/1", byhand.Mul(nines[:200], "2") + "/" + byhand.Mul(nines[:200], "3")} {
		row(t, []string{of(f, s), rat(fixed.Error(f, q(s))), fit(s, "9", 0, 0), fit("-9", s, 0, 0)}, "ErrForm", "ErrForm", "ErrForm", "ErrForm")
	}
	s := &sample{205, 12}
	for range 300 {
		f := s.form()
		lo, hi, _ := fixed.Range(f)
		width, _ := fixed.Step(f)
		a, _ := fixed.Num(f, s.word(f))
		wrong, e := fixed.Error(with(f, f.Round, api.OverClip), s.rat(f))
		if e != api.OK {
			t.Fatal(describe(f), outcome.Name(e))
		}
		for _, x := range []api.Rat{lo, hi, width, a, wrong} {
			if e := ratio.Check(x); e != api.OK {
				t.Error(describe(f), written(x))
			}
		}
	}
}

// TestR5 is that the ends of the ints are arguments like all others.
func TestR5(t *testing.T) {
	for _, n := range []int{math.MinInt, math.MaxInt} {
		x := arguments{api.FixedForm{Bits: n, Frac: n, Round: n, Over: n}, api.FixedForm{Bits: n, Frac: n, Round: n, Over: n}, q("1"), q("1"), n, n, n, []int{n}, []int{n}, n, n, "1"}
		row(t, x.outcomes(), slices.Repeat([]string{"ErrValue"}, 12)...)
		x.f, x.g = w, w
		row(t, x.outcomes()[3:], "ErrRange", "2", "0", "ErrKind", "ErrRange", "ErrRange", "ErrValue", "ErrRange", "ErrForm")
	}
}
