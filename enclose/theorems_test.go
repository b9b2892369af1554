package enclose_test

import (
	"slices"
	"strconv"
	"testing"

	"metewand/api"
	"metewand/enclose"
	"metewand/internal/byhand"
	"metewand/internal/outcome"
)

// operations are the functions of two enclosures, and what they do with two numbers.
func operations() map[string]struct {
	of   func(a, b api.Enclosure) (api.Enclosure, api.Errno)
	with func(x, y api.Rat) api.Rat
} {
	type operation = struct {
		of   func(a, b api.Enclosure) (api.Enclosure, api.Errno)
		with func(x, y api.Rat) api.Rat
	}
	return map[string]operation{"plus": {enclose.Plus, plus}, "minus": {enclose.Minus, minus}, "times": {enclose.Times, times}, "over": {enclose.Over, divided}}
}

// P6.8

func TestP6_08Inside(t *testing.T) {
	for _, s := range kinds(81)[:3] {
		for range 60 {
			a, b := s.in(), s.in()
			x, y := s.inside(a), s.inside(b)
			for name, f := range operations() {
				if got, e := f.of(a, b); e == api.OK && !has(got, f.with(x, y)) {
					t.Fatal(name, preview(a), preview(b), preview(got))
				}
			}
			power := q("1")
			for n := range 7 {
				if got, e := enclose.Power(a, n); e == api.OK && !has(got, power) {
					t.Fatal(n, preview(a), preview(got))
				}
				power = times(power, x)
			}
		}
	}
}

// P6.9

func TestP6_09Narrower(t *testing.T) {
	for _, s := range kinds(91) {
		for range 40 {
			a, b := s.in(), s.in()
			c, d := s.narrower(a), s.narrower(b)
			if enclose.Check(c) != api.OK || enclose.Check(d) != api.OK {
				continue
			}
			check := func(name string, got api.Enclosure, e api.Errno, wide api.Enclosure, f api.Errno) {
				t.Helper()
				if f == api.OK && e == api.OK && !within(got, wide) || f == api.OK && e != api.OK && e != api.ErrLarge && e != api.ErrNone {
					t.Fatal(name, preview(a), preview(b), preview(c), preview(d), preview(got), e, preview(wide))
				}
			}
			for name, f := range operations() {
				got, e := f.of(c, d)
				wide, g := f.of(a, b)
				check(name, got, e, wide, g)
			}
			got, e := enclose.Meet(c, d)
			wide, f := enclose.Meet(a, b)
			check("meet", got, e, wide, f)
			got, e = enclose.Hull(c, d)
			wide, f = enclose.Hull(a, b)
			check("hull", got, e, wide, f)
			for n := range 7 {
				got, e = enclose.Power(c, n)
				wide, f = enclose.Power(a, n)
				check("power", got, e, wide, f)
			}
			wider, e := enclose.Below(a, b)
			if sure, f := enclose.Below(c, d); e != api.OK || f != api.OK || wider != api.Maybe && sure != wider {
				t.Fatal(preview(a), preview(b), preview(c), preview(d), sure, wider)
			}
		}
	}
}

func TestP6_09Solve(t *testing.T) {
	for _, s := range kinds(92)[:2] {
		for range 300 {
			a, b, x := s.in(), s.in(), s.in()
			wide := outcome.Must[[]api.Enclosure](t)(enclose.Solve(a, b, x))
			for _, part := range outcome.Must[[]api.Enclosure](t)(enclose.Solve(s.narrower(a), s.narrower(b), s.narrower(x))) {
				if !slices.ContainsFunc(wide, func(whole api.Enclosure) bool { return within(part, whole) }) {
					t.Fatal(text(a), text(b), text(x), text(part))
				}
			}
		}
	}
}

func TestP6_09Images(t *testing.T) {
	for name, f := range allImages() {
		s := &sample{93, 0}
		for range 200 {
			a, places := s.domain(f.lo, f.hi), s.Below(9)
			b := s.narrower(a)
			if got, wide := get(t)(f.of(b, places)), get(t)(f.of(a, places)); !within(got, wide) {
				t.Fatal(name, places, text(a), text(b), text(got), text(wide))
			}
		}
	}
}

// P6.10

func TestP6_10Apart(t *testing.T) {
	some := 0
	for _, s := range kinds(101) {
		for range 60 {
			a, b, c := s.in(), s.in(), s.in()
			sum, e := enclose.Plus(b, c)
			left, f := enclose.Times(a, sum)
			first, g := enclose.Times(a, b)
			second, h := enclose.Times(a, c)
			right, i := enclose.Plus(first, second)
			if max(e, f, g, h, i) == api.OK {
				some++
				if !within(left, right) {
					t.Fatal(preview(a), preview(b), preview(c))
				}
			}
		}
	}
	if some < 150 {
		t.Error(some)
	}
}

// P6.11

// TestP6_11Solved: the multiples of a number by those of b are an enclosure. The ends of the results, and what is next to them, are tried, too.
func TestP6_11Solved(t *testing.T) {
	counts := map[int]int{}
	for _, s := range kinds(111)[:3] {
		for range 150 {
			a, b, x := s.in(), s.in(), s.in()
			l, e := enclose.Solve(a, b, x)
			if e == api.ErrLarge {
				continue
			}
			counts[len(l)]++
			for i, part := range l {
				if e := enclose.Check(part); e != api.OK || !within(part, x) || i > 0 && compare(l[i-1].Hi, part.Lo) >= 0 {
					t.Fatal(preview(a), preview(b), preview(x), i, e)
				}
			}
			numbers := []api.Rat{x.Lo, x.Hi, q("0"), s.inside(x), s.inside(x), s.inside(x)}
			for _, part := range l {
				for _, end := range []api.Rat{part.Lo, part.Hi} {
					numbers = append(numbers, end, plus(end, q("1/1000000000000")), plus(end, q("-1/1000000000000")))
				}
			}
			for _, n := range numbers {
				solves := has(x, n) && common(a, around(times(n, b.Lo), times(n, b.Hi)))
				if solves != slices.ContainsFunc(l, func(part api.Enclosure) bool { return has(part, n) }) {
					t.Fatal(preview(a), preview(b), preview(x), preview(around(n)), list(l, e))
				}
			}
		}
	}
	if counts[0] < 20 || counts[1] < 50 || counts[2] < 10 {
		t.Error(counts)
	}
}

// P6.12

func TestP6_12Rounded(t *testing.T) {
	for _, s := range kinds(121) {
		for range 60 {
			a, places := s.in(), s.Below(9)
			got, e := enclose.Round(a, places)
			if e == api.ErrLarge {
				continue
			}
			step := decimal("1", places)
			below, above := minus(a.Lo, got.Lo), minus(got.Hi, a.Hi)
			whole := divided(got.Lo, step).Den + divided(got.Hi, step).Den
			if e != api.OK || whole != "11" || byhand.Negative(below.Num) || byhand.Negative(above.Num) || compare(below, step) >= 0 || compare(above, step) >= 0 {
				t.Fatal(preview(a), places, preview(got), e)
			}
			row(t, []string{one(enclose.Round(got, places))}, text(got))
		}
	}
}

// P6.13

func TestP6_13Root(t *testing.T) {
	for _, s := range kinds(131) {
		for range 40 {
			x, y, places := s.rat(), s.rat(), s.Below(9)
			a := around(api.Rat{Num: byhand.Amount(x.Num), Den: x.Den}, api.Rat{Num: byhand.Amount(y.Num), Den: y.Den})
			got := get(t)(enclose.Root(a, places))
			step := decimal("1", places)
			square := func(x api.Rat) api.Rat { return times(x, x) }
			in, out := plus(got.Lo, step), minus(got.Hi, step)
			switch {
			case compare(square(got.Lo), a.Lo) > 0, compare(square(got.Hi), a.Hi) < 0:
				t.Fatal("too narrow:", preview(a), places, preview(got))
			case compare(square(in), a.Lo) <= 0, got.Hi.Num != "0" && compare(square(out), a.Hi) >= 0:
				t.Fatal("too wide:", preview(a), places, preview(got))
			}
		}
	}
}

// P6.14

func TestP6_14Exp(t *testing.T) {
	s := &sample{141, 0}
	for range 150 {
		a, b, places := s.domain("-2", "2"), s.domain("-2", "2"), s.Below(9)
		sum := get(t)(enclose.Plus(a, b))
		product := get(t)(enclose.Times(get(t)(enclose.Exp(a, places)), get(t)(enclose.Exp(b, places))))
		if got := get(t)(enclose.Exp(sum, places)); !common(got, product) {
			t.Fatal(text(a), text(b), places, text(got), text(product))
		}
	}
	for places := range 9 {
		last := z
		for n := -8; n <= 8; n++ {
			x := byhand.Reduced(strconv.Itoa(n), "2")
			got := get(t)(enclose.Exp(around(x), places))
			if places >= 2 && compare(got.Lo, q("0")) <= 0 || compare(got.Lo, last.Lo) < 0 || compare(got.Hi, last.Hi) < 0 || places >= 3 && compare(last.Hi, got.Lo) >= 0 {
				t.Fatal(n, places, text(got))
			}
			last = got
		}
	}
}

// P6.15

func TestP6_15Log(t *testing.T) {
	s := &sample{151, 0}
	for range 150 {
		a, places := s.domain("-4", "4"), 2+s.Below(7)
		x := s.inside(a)
		power := get(t)(enclose.Exp(a, places))
		if got := get(t)(enclose.Log(power, s.Below(9))); !within(a, got) || !has(got, x) {
			t.Fatal(text(a), places, text(power), text(got))
		}
	}
}

// P6.16

func TestP6_16Sine(t *testing.T) {
	s := &sample{161, 0}
	for range 150 {
		a, places := s.domain("-4", "4"), s.Below(9)
		got := get(t)(enclose.Sin(a, places))
		negative := api.Enclosure{Lo: byhand.Negated(got.Hi), Hi: byhand.Negated(got.Lo)}
		if !within(got, in("-1..1")) {
			t.Fatal(text(a), places, text(got))
		}
		row(t, []string{one(enclose.Sin(around(byhand.Negated(a.Lo), byhand.Negated(a.Hi)), places))}, text(negative))
		x := around(s.between(q("-4/3"), q("4/3")))
		sine := get(t)(enclose.Sin(x, places))
		three, four := in("3..3"), in("4..4")
		thrice := get(t)(enclose.Sin(get(t)(enclose.Times(three, x)), places))
		other := get(t)(enclose.Minus(get(t)(enclose.Times(three, sine)), get(t)(enclose.Times(four, get(t)(enclose.Power(sine, 3))))))
		if !common(thrice, other) {
			t.Fatal(text(x), places, text(thrice), text(other))
		}
	}
}

// P6.17

func TestP6_17Below(t *testing.T) {
	counts := map[string]int{}
	for _, s := range kinds(171) {
		for range 100 {
			a, b := s.in(), s.in()
			switch s.Below(6) {
			case 0, 1:
				b = around(a.Hi, b.Hi)
			case 2:
				a = around(a.Hi)
				b = a
			}
			pair := verdict(enclose.Below(a, b)) + verdict(enclose.Below(b, a))
			counts[pair]++
			// Neither is less than the other one just if both are one number; of two that have an end in common, one is never less.
			touch := a.Lo == b.Hi || b.Lo == a.Hi
			switch pair {
			case "YesNo", "NoYes":
				if common(a, b) {
					t.Fatal(preview(a), preview(b), pair)
				}
			case "NoNo":
				if a != b || a.Lo != a.Hi {
					t.Fatal(preview(a), preview(b), pair)
				}
			case "MaybeNo", "NoMaybe":
				if !touch {
					t.Fatal(preview(a), preview(b), pair)
				}
			case "MaybeMaybe":
				if !common(a, b) || touch {
					t.Fatal(preview(a), preview(b), pair)
				}
			default:
				t.Fatal(preview(a), preview(b), pair)
			}
		}
	}
	for _, pair := range []string{"YesNo", "NoYes", "NoNo", "MaybeNo", "NoMaybe", "MaybeMaybe"} {
		if counts[pair] == 0 {
			t.Error(counts)
		}
	}
}
