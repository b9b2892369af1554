package affine_test

import (
	"math"
	"slices"
	"strings"
	"sync"
	"testing"

	"metewand/affine"
	"metewand/api"
	"metewand/internal/byhand"
	"metewand/internal/outcome"
	"metewand/ratio"
)

// oddNumbers are valid numbers, and others.
func oddNumbers() []api.Rat {
	return []api.Rat{{}, q("-"), q("0"), q("-0"), q("1"), q("-1"), q("2"), q("1/3"), q("2/4"), q("1/0"), q("1/-1"), q("\xff"), q(nines), q("-1/" + nines), q("-" + nines + "/" + tens), q(over), q("1/" + over), q(strings.Repeat("z", 3000)), q("9223372036854775808")}
}

// oddTerms returns lists of terms of all kinds.
func (s *sample) oddTerms() []api.AffineTerm {
	numbers, noises := oddNumbers(), append(odd(), 1, 2, 29, 30)
	var list []api.AffineTerm
	for range s.Below(9) {
		term := api.AffineTerm{Noise: len(list) + 1, Size: q("1/2")}
		if s.Below(6) == 0 {
			term.Noise = noises[s.Below(len(noises))]
		}
		if s.Below(4) == 0 {
			term.Size = numbers[s.Below(len(numbers))]
		}
		list = append(list, term)
	}
	return list
}

// oddForms returns forms of all kinds, valid ones and others.
func oddForms() []api.Affine {
	s := &sample{200, 0}
	all := []api.Affine{f, g, h, {}}
	for _, mid := range oddNumbers() {
		for range 12 {
			all = append(all, api.Affine{Mid: mid, Terms: s.oddTerms()})
		}
	}
	return all
}

// arguments are those of all functions.
type arguments struct {
	f, g        api.Affine
	set         []api.AffineTerm
	a           api.Enclosure
	x           api.Rat
	noise, many int
}

// outcomes calls all functions, and returns what they return.
func (x arguments) outcomes() []string {
	return []string{
		outcome.Name(affine.Check(x.f)), span(affine.Range(x.f)), number(affine.Value(x.f, x.set)), one(affine.Of(x.a, x.noise)),
		one(affine.Scale(x.f, x.x)), one(affine.Shift(x.f, x.x)), one(affine.Square(x.f, x.noise)), one(affine.Inverse(x.f, x.noise)), one(affine.Fix(x.f, x.noise, x.x)), one(affine.Merge(x.f, x.many, x.noise)),
		one(affine.Plus(x.f, x.g)), one(affine.Minus(x.f, x.g)), one(affine.Times(x.f, x.g, x.noise)), verdict(affine.Below(x.f, x.g)), list(affine.Shared(x.f, x.g)),
	}
}

// TestP1NoPanic: each function returns, whatever its arguments are.
func TestP1NoPanic(t *testing.T) {
	s := &sample{201, 0}
	all, numbers, noises := oddForms(), oddNumbers(), append(odd(), 1, 7, 30)
	number := func() api.Rat { return numbers[s.Below(len(numbers))] }
	for _, f := range all {
		for _, noise := range noises {
			x := arguments{f, all[s.Below(len(all))], s.oddTerms(), api.Enclosure{Lo: number(), Hi: number()}, number(), noise, []int{math.MinInt, -1, 0, 1, 5, math.MaxInt}[s.Below(6)]}
			x.outcomes()
		}
	}
}

// TestR1 is the order of errors: of the first argument, of the second one, and those that the promises name.
func TestR1(t *testing.T) {
	s := &sample{202, 0}
	all, numbers := oddForms(), oddNumbers()
	counts := map[bool]int{}
	for _, f := range all {
		x := arguments{f, all[s.Below(len(all))], terms("2@1"), in("2..1"), numbers[s.Below(len(numbers))], 31, -1}
		first, second, third := affine.Check(x.f), affine.Check(x.g), ratio.Check(x.x)
		got := x.outcomes()
		counts[first == api.OK]++
		row(t, got[3:4], "ErrOrder")
		if first != api.OK {
			row(t, append(got[:3:3], got[4:]...), slices.Repeat([]string{outcome.Name(first)}, 14)...)
			continue
		}
		row(t, append(got[8:10:10], got[2], got[6]), slices.Repeat([]string{"ErrValue"}, 4)...)
		if third != api.OK {
			row(t, got[4:6], outcome.Name(third), outcome.Name(third))
		}
		if second != api.OK {
			row(t, got[10:], slices.Repeat([]string{outcome.Name(second)}, 5)...)
		} else {
			row(t, got[12:13], "ErrValue")
		}
	}
	if counts[true] < 15 || counts[false] < 60 {
		t.Error(counts)
	}
}

// TestR1Last is that numbers that are too large come behind all other errors but too many terms.
func TestR1Last(t *testing.T) {
	long, six := form(nines+", "+nines+"@1"), form(nines+", 1@1, 1@2, 1@3, 1@4, 1@5, 1@6")
	row(t, []string{one(affine.Times(long, long, 0)), one(affine.Times(long, long, 1)), one(affine.Times(long, long, 2)), one(affine.Square(long, 0)), one(affine.Square(long, 1)), one(affine.Square(long, 2)), one(affine.Inverse(long, 0)), one(affine.Inverse(six, 0)), one(affine.Inverse(six, 1)), one(affine.Inverse(six, 7)), one(affine.Fix(long, 0, q("1"))), one(affine.Fix(long, 1, q("2"))), one(affine.Fix(long, 1, q("1"))), one(affine.Merge(six, -1, 7)), one(affine.Merge(six, 5, 6)), number(affine.Value(long, terms("1@1, 2@2"))), number(affine.Value(long, terms("1@1")))}, "ErrValue", "ErrTwice", "ErrLarge", "ErrValue", "ErrTwice", "ErrLarge", "ErrZero", "ErrValue", "ErrTwice", "ErrLarge", "ErrValue", "ErrValue", "ErrLarge", "ErrValue", "ErrTwice", "ErrValue", "ErrLarge")
	other := form("2, 1@7, 1@8")
	row(t, []string{one(affine.Plus(six, other)), one(affine.Minus(six, other)), one(affine.Minus(six, form("1, 1@8"))), one(affine.Times(six, other, 9)), one(affine.Times(form("1, 1@1, 1@2, 1@3, 1@4, 1@5, 1@6"), other, 9)), one(affine.Square(six, 7)), one(affine.Of(in("0..1/"+nines), 0))}, "ErrLarge", "ErrMany", "ErrMany", "ErrLarge", "ErrMany", "ErrLarge", "ErrValue")
}

// TestR2 is that nothing is remembered between calls, and that calls at the same time do not disturb each other.
func TestR2(t *testing.T) {
	s := &sample{203, 30}
	x := arguments{s.form(), s.form(), s.setting(), in("-1/3..7"), q("2/3"), 0, 2}
	x.noise = s.fresh(x.f, x.g)
	y := arguments{h, g, nil, in("1..2"), q("-1"), 9, 0}
	of := func() []string { return slices.Concat(x.outcomes(), y.outcomes()) }
	want := of()
	var all sync.WaitGroup
	for range 8 {
		all.Go(func() {
			for range 20 {
				if got := of(); !slices.Equal(got, want) {
					t.Errorf("got %q, want %q", got, want)
				}
			}
		})
	}
	all.Wait()
}

// TestR3 is that results are zero values if there is an error.
func TestR3(t *testing.T) {
	zero := func(f api.Affine, e api.Errno) {
		t.Helper()
		if e == api.OK || f.Mid != (api.Rat{}) || len(f.Terms) > 0 {
			t.Error(preview(f), e)
		}
	}
	six, long, bad := form("1, 1@1, 1@2, 1@3, 1@4, 1@5, 1@6"), form("1, 1@1, "+nines+"@2"), form("1, 1@1, 0@2")
	zero(affine.Of(in("1..2"), 0))
	zero(affine.Of(in("1/"+nines+"..1/"+tens), 1))
	zero(affine.Plus(six, form("1, 1@7")))
	zero(affine.Minus(six, form("1, 1@7")))
	zero(affine.Plus(long, long))
	zero(affine.Plus(f, bad))
	zero(affine.Scale(long, q("2")))
	zero(affine.Scale(f, q("2/2")))
	zero(affine.Shift(form(nines+", 1@1"), q("1")))
	zero(affine.Times(six, f, 9))
	zero(affine.Times(f, f, 1))
	zero(affine.Square(long, 3))
	zero(affine.Square(six, 7))
	zero(affine.Inverse(f, 9))
	zero(affine.Inverse(h, 1))
	zero(affine.Inverse(form("7, 1@1, 1@2, 1@3, 1@4, 1@5, 1@6"), 7))
	zero(affine.Fix(f, 1, q("2")))
	zero(affine.Fix(form(nines+", 1@1, 1@2"), 1, q("1")))
	zero(affine.Merge(f, -1, 9))
	zero(affine.Merge(form("1, "+nines+"@1, 1@2, 1/2@3"), 0, 9))
	for _, x := range []api.Affine{form(nines + ", 1@1"), form("-" + nines + ", 1@1"), bad} {
		if a, e := affine.Range(x); e == api.OK || a != (api.Enclosure{}) {
			t.Error(a, e)
		}
		if n, e := affine.Value(x, terms("2@1")); e == api.OK || n != (api.Rat{}) {
			t.Error(n, e)
		}
	}
	if n, e := affine.Below(f, bad); n != 0 || e != api.ErrZero {
		t.Error(n, e)
	}
	if l, e := affine.Shared(f, bad); len(l) > 0 || e != api.ErrZero {
		t.Error(l, e)
	}
}

// TestR4 is that arguments are not changed, that no result shares memory with one, or with another result, and that a nil slice is an empty one.
func TestR4(t *testing.T) {
	x := form("3, 1@1, 2@2, -3@3")
	y := form("5, 4@3, 1@4")
	room := append(slices.Clip(x.Terms), terms("7@9, 7@10")...)
	x.Terms = room[:3]
	set := terms("1@1, 1/2@2, 0@4")
	before := []string{text(x), text(y), text(api.Affine{Terms: room}), text(api.Affine{Terms: set})}
	of := map[string]func() (api.Affine, api.Errno){
		"plus":    func() (api.Affine, api.Errno) { return affine.Plus(x, y) },
		"minus":   func() (api.Affine, api.Errno) { return affine.Minus(x, y) },
		"scale":   func() (api.Affine, api.Errno) { return affine.Scale(x, q("1")) },
		"shift":   func() (api.Affine, api.Errno) { return affine.Shift(x, q("0")) },
		"times":   func() (api.Affine, api.Errno) { return affine.Times(x, form("1"), 9) },
		"square":  func() (api.Affine, api.Errno) { return affine.Square(x, 9) },
		"inverse": func() (api.Affine, api.Errno) { return affine.Inverse(form("9, 1@1"), 9) },
		"fix":     func() (api.Affine, api.Errno) { return affine.Fix(x, 9, q("1")) },
		"merge":   func() (api.Affine, api.Errno) { return affine.Merge(x, 3, 9) },
	}
	for name, call := range of {
		first, second := get(t)(call()), get(t)(call())
		want := text(second)
		for i := range first.Terms {
			first.Terms[i] = api.AffineTerm{Noise: 99, Size: q("99")}
		}
		_ = append(first.Terms, api.AffineTerm{Noise: 99})
		row(t, []string{name, text(second), text(get(t)(call()))}, name, want, want)
	}
	row(t, []string{number(affine.Value(x, set)), text(x), text(y), text(api.Affine{Terms: room}), text(api.Affine{Terms: set})}, append([]string{"5"}, before...)...)
	shared := outcome.Must[[]int](t)(affine.Shared(x, x))
	shared[0] = 99
	row(t, []string{list(affine.Shared(x, x))}, "1 2 3")

	empty := api.Affine{Mid: q("2"), Terms: []api.AffineTerm{}}
	for _, x := range []arguments{{empty, empty, []api.AffineTerm{}, in("1..1"), q("1/2"), 9, 0}, {f, empty, []api.AffineTerm{}, in("1..2"), q("1/2"), 9, 0}} {
		y := x
		y.set = nil
		for _, form := range []*api.Affine{&y.f, &y.g} {
			if len(form.Terms) == 0 {
				form.Terms = nil
			}
		}
		row(t, x.outcomes(), y.outcomes()...)
	}
}

// TestR7 is that all numbers of arguments have to be in lowest terms.
func TestR7(t *testing.T) {
	for _, s := range []string{"2/4", "-6/3", "0/7", "3/1/1", byhand.Mul(nines[:200], "2") + "/" + byhand.Mul(nines[:200], "3")} {
		x := q(s)
		mid, size := api.Affine{Mid: x}, api.Affine{Mid: q("1"), Terms: []api.AffineTerm{{Noise: 1, Size: x}}}
		row(t, []string{outcome.Name(affine.Check(mid)), outcome.Name(affine.Check(size)), number(affine.Value(f, size.Terms)), one(affine.Of(api.Enclosure{Lo: x, Hi: q("9")}, 1)), one(affine.Of(api.Enclosure{Lo: q("-9"), Hi: x}, 1)), one(affine.Scale(f, x)), one(affine.Shift(f, x)), one(affine.Fix(f, 1, x))}, slices.Repeat([]string{"ErrForm"}, 8)...)
	}
}
