package affine_test

import (
	"math"
	"slices"
	"testing"

	"metewand/affine"
	"metewand/api"
	"metewand/internal/byhand"
	"metewand/internal/outcome"
)

// P7.1

func TestP7_01Check(t *testing.T) {
	for s, want := range map[string]api.Errno{
		"0": api.OK, "-1/2, 1@1": api.OK, "1, -1/3@30": api.OK, "7, 1@1, 1@2, 1@3, 1@4, 1@5, 1@30": api.OK, nines + ", -" + nines + "@7, 1/" + nines + "@8": api.OK,
		"": api.ErrForm, "-0": api.ErrForm, "2/4": api.ErrForm, "1/0": api.ErrForm, "x, 1@0": api.ErrForm, over: api.ErrLarge, "1/" + over: api.ErrLarge,
		"1, 1@1, 1@2, 1@3, 1@4, 1@5, 1@6, 1@7": api.ErrMany, "1, 1@1, 1@1, 1@1, 1@1, 1@1, 1@1, 1@1": api.ErrMany, "1, 0@0, 2/2@0, 1@0, 1@0, 1@0, 1@0, 1@0": api.ErrMany, "2/2, 1@1, 1@2, 1@3, 1@4, 1@5, 1@6, 1@7": api.ErrForm,
		"1, 1@0": api.ErrValue, "1, 1@-1": api.ErrValue, "1, 1@31": api.ErrValue, "1, 1@1, 1@31": api.ErrValue, "1, 1@5, 1@0": api.ErrValue, "1, 0@0": api.ErrValue, "1, 2/2@31": api.ErrValue,
		"1, 1@2, 1@1": api.ErrOrder, "1, 1@2, 1@2": api.ErrOrder, "1, 1@1, 1@3, 1@2": api.ErrOrder, "1, 1@30, 2/2@29": api.ErrOrder, "1, 1@30, 0@30": api.ErrOrder,
		"1, 2/2@1": api.ErrForm, "1, @1": api.ErrForm, "1, 0/2@1": api.ErrForm, "1, " + over + "@1": api.ErrLarge, "1, 1/" + over + "@1": api.ErrLarge,
		"1, 0@1": api.ErrZero, "1, 1@1, 0@2": api.ErrZero,
		// The first term that is wrong decides.
		"1, 0@2, 1@1": api.ErrZero, "1, 2/2@2, 1@1": api.ErrForm, "1, 1@3, 1@2, 0@1": api.ErrOrder, "1, 0@1, 1@31": api.ErrZero, "1, " + over + "@1, 1@0": api.ErrLarge,
	} {
		if got := affine.Check(form(s)); got != want {
			t.Errorf("Check(%s) = %s", preview(form(s)), outcome.Name(got))
		}
	}
	for _, noise := range odd() {
		if got := affine.Check(api.Affine{Mid: q("1"), Terms: []api.AffineTerm{{Noise: noise, Size: q("1")}}}); got != api.ErrValue {
			t.Error(noise, got)
		}
	}
	if e := affine.Check(api.Affine{}); e != api.ErrForm {
		t.Error(e)
	}
	for noise := 1; noise <= 30; noise++ {
		if e := affine.Check(api.Affine{Mid: q("1"), Terms: []api.AffineTerm{{Noise: noise, Size: q("1")}}}); e != api.OK {
			t.Error(noise, e)
		}
	}
}

func TestP7_01Range(t *testing.T) {
	for _, s := range kinds(11) {
		for range 60 {
			f := s.form()
			want := modelOf(f).span()
			got, e := affine.Range(f)
			if !byhand.Fits(want.Lo) || !byhand.Fits(want.Hi) {
				row(t, []string{span(got, e)}, "ErrLarge")
				continue
			}
			row(t, []string{span(got, e)}, outcome.WrittenSpan(want))
		}
	}
	most := nines[:399]
	row(t, []string{span(affine.Range(form("7"))), span(affine.Range(form("-1/2, -1/3@4, 1/6@9"))), span(affine.Range(form("0, " + nines + "@1"))), span(affine.Range(form(most + "8, -1@1"))), span(affine.Range(form("1, " + nines + "@1"))), span(affine.Range(form("-1, " + nines + "@1"))), span(affine.Range(form("0, " + nines + "@1, -1@2")))}, "7..7", "-1..0", "-"+nines+".."+nines, most+"7.."+nines, "ErrLarge", "ErrLarge", "ErrLarge")
}

func TestP7_01Value(t *testing.T) {
	for _, s := range kinds(12) {
		for range 60 {
			f, set := s.form(), s.setting()
			got, e := affine.Value(f, set)
			dueNumber(t, modelOf(f).value(set), got, e)
		}
	}
	row(t, []string{value(f, ""), value(f, "0@1, 0@2"), value(f, "1@1, 1@2"), value(f, "-1@1, -1@2, 1@30"), value(f, "1@1"), value(f, "1@2"), value(f, "1@1, 1@3"), value(f, "1@3, 1@4"), value(form("2"), "1@1"), value(form("1, "+nines+"@1"), "-1@1"), value(form("1, "+nines+"@1"), "1@1"), value(form("1, "+nines+"@1"), "1/"+nines+"@1"), value(form(nines+", 1@1, -1@2"), "1@1, 1@2")}, "3", "3", "6", "0", "4", "5", "4", "3", "2", "-"+nines[:399]+"8", "ErrLarge", "2", nines)
}

func TestP7_01Settings(t *testing.T) {
	for set, want := range map[string]string{
		"-1@1": "2", "1@30": "3", "-" + nines[:399] + "8/" + nines + "@30": "3", "0@1, 0@2, 0@3, 0@4, 0@5, 0@6, 0@7, 0@8": "3",
		"1@0": "ErrValue", "1@31": "ErrValue", "1@-1": "ErrValue", "1@1, 1@31": "ErrValue", "2@0": "ErrValue",
		"1@2, 1@1": "ErrOrder", "1@2, 1@2": "ErrOrder", "1@9, 3@8": "ErrOrder",
		"2/2@1": "ErrForm", "x@1": "ErrForm", "@1": "ErrForm", over + "@1": "ErrLarge", "1/" + over + "@1": "ErrLarge",
		"2@1": "ErrValue", "-2@1": "ErrValue", "3/2@7": "ErrValue", "-" + nines + "/" + tens + "@30": "ErrValue", nines + "/" + nines[:399] + "8@30": "ErrValue",
		"2@1, 1@1": "ErrValue", "2/2@3, 1@1": "ErrForm", "1@3, 1@2, 9@9": "ErrOrder", over + "@1, 1@0": "ErrLarge",
	} {
		if got := value(f, set); got != want {
			t.Errorf("under %q: %s", set, got)
		}
	}
	for _, noise := range odd() {
		row(t, []string{number(affine.Value(f, []api.AffineTerm{{Noise: noise, Size: q("1")}}))}, "ErrValue")
	}
	// More terms than there are noises.
	row(t, []string{number(affine.Value(f, slices.Repeat(terms("0@1"), 31)))}, "ErrOrder")
	var all []api.AffineTerm
	for noise := 1; noise <= 31; noise++ {
		all = append(all, api.AffineTerm{Noise: noise, Size: q("1")})
	}
	row(t, []string{number(affine.Value(f, all[:30])), number(affine.Value(f, all))}, "6", "ErrValue")
}

// P7.2

func TestP7_02Of(t *testing.T) {
	half := q("1/2")
	for _, s := range kinds(21) {
		for range 60 {
			a := modelOf(s.small(1)).span()
			if !byhand.Fits(a.Lo) || !byhand.Fits(a.Hi) {
				continue
			}
			noise := 1 + s.Below(30)
			got, e := affine.Of(a, noise)
			due(t, with(times(half, plus(a.Lo, a.Hi)), model{}, model{}, nil, noise, times(half, minus(a.Hi, a.Lo))), got, e)
		}
	}
	for _, noise := range odd() {
		row(t, []string{one(affine.Of(in("1..2"), noise)), one(affine.Of(in("2..2"), noise)), one(affine.Of(in("2..1"), noise))}, "ErrValue", "ErrValue", "ErrOrder")
	}
	row(t, []string{one(affine.Of(in("-1/2..1/3"), 1)), one(affine.Of(in("0..0"), 30)), one(affine.Of(in("2/2..1"), 0)), one(affine.Of(in("1..2/2"), 1)), one(affine.Of(in("3.."+over), 1)), one(affine.Of(api.Enclosure{}, 1))}, "-1/12, 5/12@1", "0", "ErrForm", "ErrForm", "ErrLarge", "ErrForm")
	least, most := "-"+nines, nines
	row(t, []string{one(affine.Of(in(least+".."+most), 1)), one(affine.Of(in("1.."+most), 1)), one(affine.Of(in(most+".."+most), 1)), one(affine.Of(in("0..1/"+nines), 2)), one(affine.Of(in("1/"+nines+"..1/"+tens), 2))}, "0, "+nines+"@1", "5"+tens[1:]+", 4"+nines[1:]+"@1", nines, "ErrLarge", "ErrLarge")
}

// P7.3

func TestP7_03ByHand(t *testing.T) {
	for _, s := range kinds(31) {
		for range 60 {
			f, g := s.pair()
			m, n := modelOf(f), modelOf(g)
			got, e := affine.Plus(f, g)
			due(t, with(plus(f.Mid, g.Mid), m, n, func(i int) api.Rat { return plus(m.size(i), n.size(i)) }, 0, q("0")), got, e)
			got, e = affine.Minus(f, g)
			due(t, with(minus(f.Mid, g.Mid), m, n, func(i int) api.Rat { return minus(m.size(i), n.size(i)) }, 0, q("0")), got, e)
			x := s.rat()
			got, e = affine.Scale(f, x)
			due(t, with(times(f.Mid, x), m, m, func(i int) api.Rat { return times(m.size(i), x) }, 0, q("0")), got, e)
			got, e = affine.Shift(f, x)
			due(t, with(plus(f.Mid, x), m, m, m.size, 0, q("0")), got, e)
		}
	}
}

// TestP7_03Limits has sums with 6 and with 7 terms, and with numbers of 400 and of 401 digits.
func TestP7_03Limits(t *testing.T) {
	six, other := form("0, 1@1, 1@2, 1@3, 1@4, 1@5, 1@6"), form("1, 1@6, -1@7")
	row(t, []string{one(affine.Plus(six, other)), one(affine.Minus(six, other)), one(affine.Plus(other, six)), one(affine.Plus(six, form("1, -1@1, -1@7"))), one(affine.Plus(form("1, -1@6, 5@30"), six)), one(affine.Minus(six, form("1, 1@4, 5@30"))), one(affine.Plus(six, six))}, "ErrMany", "-1, 1@1, 1@2, 1@3, 1@4, 1@5, 1@7", "ErrMany", "1, 1@2, 1@3, 1@4, 1@5, 1@6, -1@7", "1, 1@1, 1@2, 1@3, 1@4, 1@5, 5@30", "-1, 1@1, 1@2, 1@3, 1@5, 1@6, -5@30", "0, 2@1, 2@2, 2@3, 2@4, 2@5, 2@6")
	long := form(nines + ", " + nines + "@6")
	row(t, []string{one(affine.Plus(long, long)), one(affine.Minus(long, long)), one(affine.Plus(long, form("-1, -1@6"))), one(affine.Plus(long, form("1, -1@6"))), one(affine.Plus(long, form("-1, 1@6"))), one(affine.Minus(long, form("0, 1@2")))}, "ErrLarge", "0", nines[:399]+"8, "+nines[:399]+"8@6", "ErrLarge", "ErrLarge", nines+", -1@2, "+nines+"@6")
	row(t, []string{one(affine.Scale(long, q("1/"+nines))), one(affine.Scale(long, q("2"))), one(affine.Scale(form("1, "+nines+"@1"), q("2"))), one(affine.Scale(form(nines+", 1@1"), q("2"))), one(affine.Scale(long, q("0"))), one(affine.Shift(long, q("1"))), one(affine.Shift(long, q("-1"))), one(affine.Shift(form("1/2, 1@1"), q("-1/2")))}, "1, 1@6", "ErrLarge", "ErrLarge", "ErrLarge", "0", "ErrLarge", nines[:399]+"8, "+nines+"@6", "0, 1@1")
	// Too many terms are an error behind a number that is too large.
	row(t, []string{one(affine.Plus(six, form(over[:400]+", 1@8"))), one(affine.Plus(form(nines+", 1@1, 1@2, 1@3, 1@4, 1@5, 1@6"), form("1, 1@8"))), one(affine.Plus(form("0, 1@1, 1@2, 1@3, 1@4, 1@5, "+nines+"@6"), form("1, 1@6, 1@8")))}, "ErrMany", "ErrLarge", "ErrLarge")
}

func TestP7_03Numbers(t *testing.T) {
	bad := form("1, 0@1")
	for s, want := range map[string]string{"2/4": "ErrForm", "": "ErrForm", "1/0": "ErrForm", "-0": "ErrForm", over: "ErrLarge"} {
		row(t, []string{one(affine.Scale(f, q(s))), one(affine.Shift(f, q(s))), one(affine.Scale(bad, q(s))), one(affine.Shift(bad, q(s)))}, want, want, "ErrZero", "ErrZero")
	}
}

// P7.4

func TestP7_04ByHand(t *testing.T) {
	for _, s := range kinds(41) {
		for range 60 {
			f, g := s.pair()
			m, n, noise := modelOf(f), modelOf(g), s.fresh(f, g)
			size := func(i int) api.Rat { return plus(times(f.Mid, n.size(i)), times(g.Mid, m.size(i))) }
			got, e := affine.Times(f, g, noise)
			due(t, with(times(f.Mid, g.Mid), m, n, size, noise, times(m.radius(), n.radius())), got, e)
		}
	}
	row(t, []string{one(affine.Times(f, form("2"), 9)), one(affine.Times(form("2"), form("3"), 9)), one(affine.Times(f, form("0"), 9)), one(affine.Times(form("0, 1@1"), form("0, 1@2"), 3)), one(affine.Times(form("1, 1@2"), form("-1, 1@2"), 1)), one(affine.Times(form("1, -2@1, 3@3"), form("2, 1@1, 1@4"), 2))}, "6, 2@1, 4@2", "6", "0", "0, 1@3", "-1, 1@1", "2, -3@1, 10@2, 6@3, 1@4")
}

func TestP7_04Noise(t *testing.T) {
	for noise := 1; noise <= 30; noise++ {
		want := "OK"
		if noise <= 3 {
			want = "ErrTwice"
		}
		_, e := affine.Times(f, g, noise)
		_, d := affine.Times(g, f, noise)
		row(t, []string{outcome.Name(e), outcome.Name(d)}, want, want)
	}
	for _, noise := range odd() {
		row(t, []string{one(affine.Times(f, g, noise)), one(affine.Times(form("1"), form("2"), noise)), one(affine.Times(form("1, 0@1"), form("2/2"), noise)), one(affine.Times(f, form("2/2"), noise))}, "ErrValue", "ErrValue", "ErrZero", "ErrForm")
	}
	// Also if it does not count.
	row(t, []string{one(affine.Times(f, form("2"), 2)), one(affine.Times(form("2"), f, 2)), one(affine.Times(form("0"), h, 1)), one(affine.Times(f, form("2"), 3))}, "ErrTwice", "ErrTwice", "ErrTwice", "6, 2@1, 4@2")
}

// TestP7_04Limits has products with 6 and with 7 terms, and with numbers that are too large, or are so on the way only.
func TestP7_04Limits(t *testing.T) {
	five, six := form("1, 1@1, 1@2, 1@3, 1@4, 1@5"), form("1, 1@1, 1@2, 1@3, 1@4, 1@5, 1@6")
	row(t, []string{one(affine.Times(five, form("2"), 9)), one(affine.Times(five, h, 9)), one(affine.Times(six, h, 9)), one(affine.Times(six, form("-2"), 9)), one(affine.Times(six, form("-1, 1@3"), 9)), one(affine.Times(six, form("0"), 9)), one(affine.Times(five, form("0, 1@7"), 9)), one(affine.Times(six, form("0, 1@7"), 1))}, "2, 2@1, 2@2, 2@3, 2@4, 2@5", "5, 6@1, 5@2, 5@3, 5@4, 5@5, 5@9", "ErrMany", "-2, -2@1, -2@2, -2@3, -2@4, -2@5, -2@6", "-1, -1@1, -1@2, -1@4, -1@5, -1@6, 6@9", "0", "0, 1@7, 5@9", "ErrTwice")
	long := tens + "/" + nines
	row(t, []string{one(affine.Times(form(nines), form("1/"+nines), 9)), one(affine.Times(form(nines), form("2"), 9)), one(affine.Times(form("0, "+nines+"@1"), form("0, 2@2"), 9)), one(affine.Times(form("0, 2@1"), form(nines+", 1@2"), 9)), one(affine.Times(form(nines+", 1@2"), form("0, 2@1"), 9)), one(affine.Times(six, form(nines+", 1@1"), 9)), one(affine.Times(form("0, "+long+"@1"), form("0, "+nines+"@1"), 2))}, "1", "ErrLarge", "ErrLarge", "ErrLarge", "ErrLarge", "ErrLarge", "0, "+tens+"@2")
	// The radius of a form is too large, but that of the other one is 0.
	wide := "1/" + nines + "@1, 1/" + tens + "@2"
	row(t, []string{one(affine.Times(form("3, "+wide), form("2"), 9)), one(affine.Times(form("1"), form("3, "+wide), 9)), one(affine.Times(form("3, "+wide), form("2, 1@1"), 9))}, "6, 2/"+nines+"@1, 1/5"+tens[2:]+"@2", "3, "+wide, "ErrLarge")
	row(t, []string{one(affine.Times(form("0, "+nines+"@1"), form("1, 1@2"), 4)), one(affine.Times(form(nines+", "+nines+"@1"), form("-1, 1@1"), 4)), one(affine.Times(form(nines+", 1@1"), form(nines[:399]+"7/"+nines+", -"+"1/"+nines+"@1"), 4))}, "0, "+nines+"@1, "+nines+"@4", "-"+nines+", "+nines+"@4", nines[:399]+"7, -2/"+nines+"@1, 1/"+nines+"@4")
}

// P7.5

func TestP7_05ByHand(t *testing.T) {
	for _, s := range kinds(51) {
		for range 60 {
			f := s.form()
			m, noise := modelOf(f), s.fresh(f)
			half := times(q("1/2"), times(m.radius(), m.radius()))
			got, e := affine.Square(f, noise)
			due(t, with(plus(times(f.Mid, f.Mid), half), m, m, func(i int) api.Rat { return times(q("2"), times(f.Mid, m.size(i))) }, noise, half), got, e)
		}
	}
	row(t, []string{one(affine.Square(form("-3"), 9)), one(affine.Square(form("0"), 9)), one(affine.Square(form("0, -2@30"), 1)), one(affine.Square(form("1, 1@1, 1@2, 1@3, 1@4, 1@5"), 6)), one(affine.Square(form("1, 1@1, 1@2, 1@3, 1@4, 1@5, 1@6"), 7)), one(affine.Square(form("0, 1@1, 1@2, 1@3, 1@4, 1@5, 1@6"), 7)), one(affine.Square(form("-1/2, -1/3@4"), 3))}, "9", "0", "2, 2@1", "27/2, 2@1, 2@2, 2@3, 2@4, 2@5, 25/2@6", "ErrMany", "18, 18@7", "11/36, 1/18@3, 1/3@4")
}

func TestP7_05Errors(t *testing.T) {
	root := tens[:200] // of 200 digits, with a square of 399
	long := "3" + tens[1:200]
	row(t, []string{one(affine.Square(f, 1)), one(affine.Square(f, 2)), one(affine.Square(form("5, 1@30"), 30)), one(affine.Square(form("5"), 0)), one(affine.Square(form("5, 0@1"), 0)), one(affine.Square(form(root), 1)), one(affine.Square(form(long), 1)), one(affine.Square(form(root+"0"), 1)), one(affine.Square(form("0, "+nines+"@1"), 2)), one(affine.Square(form(nines+", 1@1"), 2)), one(affine.Square(form("1/"+long+"0, 1@1"), 2))}, "ErrTwice", "ErrTwice", "ErrTwice", "ErrValue", "ErrZero", tens[:399], "9"+tens[1:399], "ErrLarge", "ErrLarge", "ErrLarge", "ErrLarge")
	for _, noise := range odd() {
		row(t, []string{one(affine.Square(f, noise)), one(affine.Square(form(nines), noise))}, "ErrValue", "ErrValue")
	}
}

// P7.6

// inverseByHand returns what the chapter says, step by step.
func inverseByHand(f api.Affine, noise int) model {
	m := modelOf(f)
	a := m.span()
	far := a.Lo
	if compare(amount(a.Hi), amount(a.Lo)) > 0 {
		far = a.Hi
	}
	p := byhand.Negated(divided(q("1"), times(far, far)))
	u, v := minus(divided(q("1"), a.Lo), times(p, a.Lo)), minus(divided(q("1"), a.Hi), times(p, a.Hi))
	if compare(u, v) < 0 {
		u, v = v, u
	}
	half := q("1/2")
	mid := plus(times(p, m.mid), times(half, plus(u, v)))
	return with(mid, m, m, func(i int) api.Rat { return times(p, m.size(i)) }, noise, times(half, minus(u, v)))
}

func hasZero(a api.Enclosure) bool { return compare(a.Lo, q("0")) <= 0 && compare(a.Hi, q("0")) >= 0 }

// away moves a form until its range does not have 0, as long as its numbers are not too large.
func (s *sample) away(f api.Affine) api.Affine {
	m := modelOf(f)
	step := plus(m.radius(), q("1/3"))
	if s.Below(2) == 0 {
		step = byhand.Negated(step)
	}
	if mid := plus(step, times(q("1/2"), byhand.Reduced(byhand.Amount(f.Mid.Num), f.Mid.Den))); hasZero(m.span()) && byhand.Fits(mid) {
		f.Mid = mid
		if byhand.Negative(step.Num) {
			f.Mid = step
		}
	}
	return f
}

func TestP7_06ByHand(t *testing.T) {
	some := 0
	for _, s := range kinds(61) {
		for range 60 {
			f := s.away(s.small(4))
			noise := s.fresh(f)
			got, e := affine.Inverse(f, noise)
			if hasZero(modelOf(f).span()) {
				row(t, []string{one(got, e)}, "ErrZero")
				continue
			}
			some++
			due(t, inverseByHand(f, noise), got, e)
		}
	}
	if some < 150 {
		t.Error(some)
	}
	row(t, []string{one(affine.Inverse(form("2"), 9)), one(affine.Inverse(form("-2/3"), 9)), one(affine.Inverse(form("-5, 1@1"), 9)), one(affine.Inverse(form("3, 1@1"), 9)), one(affine.Inverse(form("3, -1@2"), 1)), one(affine.Inverse(form("4, 1@1, -1@3, 1@4"), 2)), one(affine.Inverse(form("1/2, 1/4@7"), 30))}, "1/2", "-3/2", "-5/24, -1/36@1, 1/72@9", "3/8, -1/16@1, 1/16@9", "3/8, 1/16@1, 1/16@2", "4/7, -1/49@1, 18/49@2, 1/49@3, -1/49@4", "8/3, -4/9@7, 8/9@30")
}

// TestP7_06Zero: the range has 0, at an end or inside, before anything is said of the noise.
func TestP7_06Zero(t *testing.T) {
	for _, s := range []string{"0", "1, 1@1", "-1, 1@1", "1, 2@1", "-1, 2@1", "0, 1/" + nines + "@1", "3, -1@1, 1@2, -1@3", nines + ", -" + nines + "@5"} {
		for _, noise := range append(odd(), 1, 9) {
			row(t, []string{s, one(affine.Inverse(form(s), noise))}, s, "ErrZero")
		}
	}
	row(t, []string{one(affine.Inverse(form("0, 0@1"), 0)), one(affine.Inverse(form("1, 2/2@1"), 0)), one(affine.Inverse(h, 1)), one(affine.Inverse(h, 0)), one(affine.Inverse(form("2"), 31))}, "ErrZero", "ErrForm", "ErrTwice", "ErrValue", "ErrValue")
}

// TestP7_06Limits has ranges next to 0, results with 6 and with 7 terms, and numbers that are too large.
func TestP7_06Limits(t *testing.T) {
	row(t, []string{one(affine.Inverse(form(nines), 1)), one(affine.Inverse(form("-1/"+nines), 1)), one(affine.Inverse(form("1, "+nines[:399]+"8/"+nines+"@1"), 2)), one(affine.Inverse(form(nines+", 1@1"), 2)), one(affine.Inverse(form("2, 1/"+nines+"@1"), 2)), one(affine.Inverse(form(nines+", "+nines+"@1"), 2))}, "1/"+nines, "-"+nines, "ErrLarge", "ErrLarge", "ErrLarge", "ErrZero")
	row(t, []string{one(affine.Inverse(form("6, 1@1, 1@2, 1@3, 1@4, 1@5"), 7)), one(affine.Inverse(form("-7, 1@1, 1@2, 1@3, 1@4, 1@5, 1@6"), 7)), one(affine.Inverse(form(nines+", 1@1, 1@2, 1@3, 1@4, 1@5, 1@6"), 7))}, "6/11, -1/121@1, -1/121@2, -1/121@3, -1/121@4, -1/121@5, 50/121@7", "ErrMany", "ErrLarge")
	// The square of the end that is further away is 10^500, but nothing that is returned is too large.
	far, size := "1"+tens[1:251], "1"+tens[1:201]
	f := form(byhand.Add(far, byhand.Minus(size)) + ", " + size + "@1")
	got, e := affine.Inverse(f, 2)
	due(t, inverseByHand(f, 2), got, e)
	row(t, []string{outcome.Name(e)}, "OK")
}

// P7.7

func TestP7_07ByHand(t *testing.T) {
	for _, s := range kinds(71) {
		for range 60 {
			f, noise, x := s.form(), 1+s.Below(30), s.between()
			if n := len(f.Terms); n > 0 && s.Below(4) > 0 {
				noise = f.Terms[s.Below(n)].Noise
			}
			m := modelOf(f)
			m.mid = plus(m.mid, times(x, m.size(noise)))
			delete(m.sizes, noise)
			got, e := affine.Fix(f, noise, x)
			due(t, m, got, e)
		}
	}
	six := "0, 1@1, 1@2, 1@3, 1@4, 1@5, 1@30"
	row(t, []string{one(affine.Fix(f, 1, q("0"))), one(affine.Fix(f, 2, q("1/2"))), one(affine.Fix(h, 1, q("1"))), one(affine.Fix(form("7"), 1, q("1"))), one(affine.Fix(form(six), 29, q("1"))), one(affine.Fix(form(six), 30, q("-1")))}, "3, 2@2", "4, 1@1", "6", "7", six, "-1, 1@1, 1@2, 1@3, 1@4, 1@5")
}

func TestP7_07Errors(t *testing.T) {
	for _, noise := range odd() {
		row(t, []string{one(affine.Fix(f, noise, q("0"))), one(affine.Fix(f, noise, q("2/2"))), one(affine.Fix(f, noise, q("2"))), one(affine.Fix(form("1, 0@1"), noise, q("2")))}, "ErrValue", "ErrValue", "ErrValue", "ErrZero")
	}
	less, more := nines[:399]+"8/"+nines, nines+"/"+nines[:399]+"8"
	for _, noise := range []int{1, 2, 3, 30} {
		row(t, []string{one(affine.Fix(f, noise, q("2/2"))), one(affine.Fix(f, noise, q(""))), one(affine.Fix(f, noise, q(over))), one(affine.Fix(f, noise, q("-2"))), one(affine.Fix(f, noise, q("3/2"))), one(affine.Fix(f, noise, q(more))), one(affine.Fix(f, noise, q("-"+more)))}, "ErrForm", "ErrForm", "ErrLarge", "ErrValue", "ErrValue", "ErrValue", "ErrValue")
	}
	long := nines + ", 1@1, 2@2"
	row(t, []string{one(affine.Fix(form(long), 1, q("1"))), one(affine.Fix(form(long), 1, q("-1"))), one(affine.Fix(form(long), 3, q("1"))), one(affine.Fix(form("1, "+nines+"@1"), 1, q("-"+less))), one(affine.Fix(form("1, 1/2@1"), 1, q(less)))}, "ErrLarge", nines[:399]+"8, 2@2", long, "-"+nines[:399]+"7", "ErrLarge")
}

// P7.8

// mergedByHand keeps the term that counts most again and again.
func mergedByHand(f api.Affine, many, noise int) model {
	rest := slices.Clone(f.Terms)
	kept := model{f.Mid, map[int]api.Rat{}}
	for len(kept.sizes) < many && len(rest) > 0 {
		most := 0
		for i, term := range rest {
			if compare(amount(term.Size), amount(rest[most].Size)) > 0 {
				most = i
			}
		}
		kept.sizes[rest[most].Noise] = rest[most].Size
		rest = slices.Delete(rest, most, most+1)
	}
	if len(rest) > 0 {
		kept.sizes[noise] = modelOf(api.Affine{Terms: rest}).radius()
	}
	return kept
}

func TestP7_08ByHand(t *testing.T) {
	for _, s := range kinds(81) {
		for range 60 {
			f := s.form()
			noise := s.fresh(f)
			for many := range 8 {
				got, e := affine.Merge(f, many, noise)
				due(t, mergedByHand(f, many, noise), got, e)
			}
			got, e := affine.Merge(f, math.MaxInt, noise)
			due(t, modelOf(f), got, e)
		}
	}
	ties := form("0, 1@1, -1@2, 1@3, 2@4, -2@5, 1@6")
	for many, want := range []string{"0, 8@9", "0, 2@4, 6@9", "0, 2@4, -2@5, 4@9", "0, 1@1, 2@4, -2@5, 3@9", "0, 1@1, -1@2, 2@4, -2@5, 2@9", "0, 1@1, -1@2, 1@3, 2@4, -2@5, 1@9", text(ties)} {
		row(t, []string{one(affine.Merge(ties, many, 9))}, want)
	}
	row(t, []string{one(affine.Merge(form("0, 1@2, 2@3"), 1, 1)), one(affine.Merge(form("0, -1/3@2, 1/4@3, -2/7@9"), 1, 5)), one(affine.Merge(form("4"), 0, 1)), one(affine.Merge(form("4, 1@30"), 0, 1)), one(affine.Merge(form("0, 1@1, -3@2"), 1, 9))}, "0, 1@1, 2@3", "0, -1/3@2, 15/28@5", "4", "4, 1@1", "0, -3@2, 1@9")
}

func TestP7_08Errors(t *testing.T) {
	for _, noise := range append(odd(), 1, 9) {
		row(t, []string{one(affine.Merge(f, -1, noise)), one(affine.Merge(f, math.MinInt, noise)), one(affine.Merge(form("2"), -1, noise)), one(affine.Merge(form("1, 0@1"), -1, noise)), one(affine.Merge(form("1, 2/2@1"), 0, noise))}, "ErrValue", "ErrValue", "ErrValue", "ErrZero", "ErrForm")
	}
	for _, noise := range odd() {
		row(t, []string{one(affine.Merge(f, 0, noise)), one(affine.Merge(f, 9, noise)), one(affine.Merge(form("2"), 0, noise))}, "ErrValue", "ErrValue", "ErrValue")
	}
	for many := range 9 { // also if the noise does not count, or is that of a term that is merged
		row(t, []string{one(affine.Merge(f, many, 1)), one(affine.Merge(f, many, 2))}, "ErrTwice", "ErrTwice")
	}
	long := "0, " + nines + "@1, 1@2"
	row(t, []string{one(affine.Merge(form(long), 0, 9)), one(affine.Merge(form(long), 1, 9)), one(affine.Merge(form(long), 2, 9)), one(affine.Merge(form("0, 1/"+nines+"@1, 1/"+tens+"@2"), 0, 9)), one(affine.Merge(form("0, 1/"+nines+"@1, 1/"+tens+"@2"), 1, 9))}, "ErrLarge", "0, "+nines+"@1, 1@9", long, "ErrLarge", "0, 1/"+tens+"@2, 1/"+nines+"@9")
}

// P7.9

// TestP7_09Below: the least and the greatest value of a difference are at corners.
func TestP7_09Below(t *testing.T) {
	counts := map[string]int{}
	for _, s := range kinds(91) {
		for range 60 {
			f, g := s.small(3), s.small(3)
			switch s.Below(6) {
			case 0, 1:
				g.Terms = f.Terms
			case 2: // no value of one is less, but some are equal
				g.Mid = minus(f.Mid, plus(modelOf(f).radius(), modelOf(g).radius()))
			}
			if !byhand.Fits(g.Mid) {
				continue
			}
			m, n := modelOf(f), modelOf(g)
			less, all := 0, corners(f, g)
			for _, set := range all {
				if compare(m.value(set), n.value(set)) < 0 {
					less++
				}
			}
			want := "Maybe"
			switch less {
			case 0:
				want = "No"
			case len(all):
				want = "Yes"
			}
			counts[want]++
			row(t, []string{verdict(affine.Below(f, g))}, want)
		}
	}
	if counts["Yes"] < 30 || counts["No"] < 30 || counts["Maybe"] < 30 {
		t.Error(counts)
	}
}

func TestP7_09Rows(t *testing.T) {
	below := func(f, g string) string { return verdict(affine.Below(form(f), form(g))) }
	row(t, []string{below("1", "2"), below("2", "1"), below("1", "1"), below("0, 1@1", "2, 1@1"), below("0, 1@1", "2, 1@2"), below("0, 1@1", "5/2, 1@2"), below("0, 1@1", "0, 1@1"), below("0, 1@1", "1/"+nines+", 1@1"), below("0, 1@1", "-1/"+nines+", 1@1"), below("0, 1@1", "0, 2@1"), below("0, 1@1", "1, 2@1"), below("0, 1@1", "11/10, 2@1"), below("1, 1@1", "0"), below("0", "1, 1@1")}, "Yes", "No", "No", "Yes", "Maybe", "Yes", "No", "Yes", "No", "Maybe", "Maybe", "Yes", "No", "Maybe")
	// The difference has more than 6 terms, or numbers that are too large.
	row(t, []string{below("0, 1@1, 1@2, 1@3, 1@4, 1@5, 1@6", "12, 1@7, 1@8, 1@9, 1@10, 1@11, 1@12"), below("0, 1@1, 1@2, 1@3, 1@4, 1@5, 1@6", "25/2, 1@7, 1@8, 1@9, 1@10, 1@11, 1@12"), below("-"+nines, nines), below(nines+", 1/"+nines+"@1", "-"+nines+", "+nines+"@2"), below("-"+nines+", 1/"+nines+"@1", nines+", "+nines+"@2"), below("0, "+nines+"@1", "0, -"+nines+"@1")}, "Maybe", "Yes", "Yes", "No", "Yes", "Maybe")
	row(t, []string{below("1, 0@1", "2/2"), below("1", "2/2"), below("1", "1, 1@31")}, "ErrZero", "ErrForm", "ErrValue")
}

func TestP7_09Shared(t *testing.T) {
	for _, s := range kinds(92)[:2] {
		for range 100 {
			f, g := s.pair()
			var want []int
			for _, x := range f.Terms {
				for _, y := range g.Terms {
					if x.Noise == y.Noise {
						want = append(want, x.Noise)
					}
				}
			}
			if got, e := affine.Shared(f, g); e != api.OK || !slices.Equal(got, want) {
				t.Fatal(text(f), text(g), got, e)
			}
		}
	}
	shared := func(f, g string) string { return list(affine.Shared(form(f), form(g))) }
	row(t, []string{shared("1, 1@1, 1@2, 1@30", "2, 5@1, 1@29, -7@30"), shared("1", "1"), shared("1, 1@1", "1, 1@2"), shared("1, 1@1, 1@2, 1@3, 1@4, 1@5, 1@6", "1, 1@1, 1@2, 1@3, 1@4, 1@5, 1@6"), shared("1, 0@1", "2/2"), shared("1", "2/2")}, "1 30", "", "", "1 2 3 4 5 6", "ErrZero", "ErrForm")
}
