package dim_test

import (
	"regexp"
	"slices"
	"strings"
	"testing"

	"metewand/api"
	"metewand/dim"
	"metewand/internal/byhand"
	"metewand/internal/outcome"
)

// P3.1

func TestP3_01Check(t *testing.T) {
	for s, want := range map[string]api.Errno{
		"": api.OK, "m": api.OK, "a": api.OK, "z": api.OK, "abcdefgh": api.OK, "zzzzzzzz": api.OK, "m^-3/2": api.OK, "cd kg m s": api.OK, "a aa ab b": api.OK, "m^" + nines + "/" + tens: api.OK,
		"^1": api.ErrName, "abcdefghi": api.ErrName, "M": api.ErrName, "mM": api.ErrName, "Mm": api.ErrName, "mMm": api.ErrName, "m1": api.ErrName, "m-": api.ErrName, "µ": api.ErrName, "m\xff": api.ErrName, "m\x00": api.ErrName, "`": api.ErrName, "{": api.ErrName,
		"m m": api.ErrOrder, "s m": api.ErrOrder, "b ab": api.ErrOrder, "aa a": api.ErrOrder, "a c b": api.ErrOrder,
		"m^x": api.ErrForm, "m^": api.ErrForm, "m^2/4": api.ErrForm, "m^1/0": api.ErrForm, "m^1/-2": api.ErrForm, "m^0/2": api.ErrForm, "m^-0": api.ErrForm, "m^0.5": api.ErrForm, "m^+1": api.ErrForm,
		"m^" + over: api.ErrLarge, "m^1/" + over: api.ErrLarge, "m^0": api.ErrValue, "m s^0": api.ErrValue,
		// Each power is checked before the next one; of one power, the name comes first, then the order, and then the number.
		"m^0 s^x": api.ErrValue, "m^x s^0": api.ErrForm, "m^0 a": api.ErrValue, "s m^0": api.ErrOrder, "s m^x": api.ErrOrder, "s M^0": api.ErrName, "M^x": api.ErrName, "m s^0 M": api.ErrValue,
	} {
		if e := dim.Check(d(s)); e != want {
			t.Errorf("Check(%s) = %s, not %s", preview(s), outcome.Name(e), outcome.Name(want))
		}
	}
}

func TestP3_01Same(t *testing.T) {
	texts := []string{"", "m", "s", "m^2", "m^-1", "m^1/2", "m s", "m s^-1", "m^2 s", "kg m s"}
	for i, a := range texts {
		for j, b := range texts {
			if is, e := dim.Same(d(a), d(b)); is != (i == j) || e != api.OK {
				t.Error(a, b, is, e)
			}
		}
	}
	row(t, []string{same(dim.Same(d("m^0"), d("M"))), same(dim.Same(d("m"), d("M"))), same(dim.Same(d("M"), d("M"))), same(dim.Same(d("s m"), d("m s")))}, "ErrValue", "ErrName", "ErrName", "ErrOrder")
}

// P3.2

func TestP3_02MulDiv(t *testing.T) {
	for _, s := range []sample{{1, 2, 8}, {2, 2, 3}, {3, 200, 3}, {4, 400, 2}} {
		for range 150 {
			a, b := s.dimension(), s.dimension()
			if s.Below(8) == 0 {
				b = a
			}
			got, e := dim.Mul(a, b)
			due(t, productByHand([][]api.Power{a, b}, rats("1 1")), got, e)
			got, e = dim.Div(a, b)
			due(t, productByHand([][]api.Power{a, b}, rats("1 -1")), got, e)
		}
	}
	row(t, []string{one(dim.Mul(nil, nil)), one(dim.Mul(d("m"), nil)), one(dim.Div(nil, d("m"))), one(dim.Div(d("m"), d("m"))), one(dim.Mul(d("m^1/2"), d("m^1/2"))), one(dim.Mul(d("b"), d("a c")))}, "", "m", "m^-1", "", "m", "a b c")
}

func TestP3_02MulDivLimits(t *testing.T) {
	long := "m^" + nines
	row(t, []string{one(dim.Mul(d(long), d("m"))), one(dim.Mul(d(long), d("m^-1"))), one(dim.Mul(d(long), d("m^1/2"))), one(dim.Mul(d(long+" s"), d("s^-1"))), one(dim.Div(d(long), d("m^-1"))), one(dim.Div(d(long), d(long))), one(dim.Mul(d("a"), d(long+" s"))), one(dim.Div(d("m^1/"+nines), d("m^1/"+tens)))}, "ErrLarge", "m^"+nines[:399]+"8", "ErrLarge", long, "ErrLarge", "", "a "+long+" s", "ErrLarge")
	row(t, []string{one(dim.Mul(d("M"), d("m^0"))), one(dim.Mul(d("m"), d("m^0"))), one(dim.Div(d("s m"), d("M"))), one(dim.Div(d("m"), d("m^2/2")))}, "ErrName", "ErrValue", "ErrOrder", "ErrForm")
}

func TestP3_02Pow(t *testing.T) {
	for _, s := range []sample{{5, 3, 8}, {6, 210, 3}} {
		for range 150 {
			a, n := s.dimension(), s.exponents(1)
			got, e := dim.Pow(a, n[0])
			due(t, productByHand([][]api.Power{a}, n), got, e)
		}
	}
	row(t, []string{one(dim.Pow(nil, q("7"))), one(dim.Pow(d("m s^-2"), q("0"))), one(dim.Pow(d("m s^-2"), q("1"))), one(dim.Pow(d("m s^-2"), q("-1/2"))), one(dim.Pow(d("m^1/"+tens), q(tens))), one(dim.Pow(d("m^"+tens), q("10"))), one(dim.Pow(d("m^"+tens), q("9"))), one(dim.Pow(d("m^"+tens), q("0")))}, "", "", "m s^-2", "m^-1/2 s", "m", "ErrLarge", "m^9"+tens[1:], "")
	row(t, []string{one(dim.Pow(d("m"), q("2/4"))), one(dim.Pow(nil, q("x"))), one(dim.Pow(nil, q(over))), one(dim.Pow(d("M"), q("x"))), one(dim.Pow(d("m^"+over), q("x")))}, "ErrForm", "ErrForm", "ErrLarge", "ErrName", "ErrLarge")
}

func TestP3_02Exp(t *testing.T) {
	a := d("a^-1 kg^1/2 m^" + nines + " s^-3/7")
	row(t, []string{exponent(dim.Exp(a, "a")), exponent(dim.Exp(a, "kg")), exponent(dim.Exp(a, "m")), exponent(dim.Exp(a, "s")), exponent(dim.Exp(a, "k")), exponent(dim.Exp(a, "abcdefgh")), exponent(dim.Exp(nil, "m"))}, "-1", "1/2", nines, "-3/7", "0", "0", "0")
	row(t, []string{exponent(dim.Exp(a, "")), exponent(dim.Exp(a, "abcdefghi")), exponent(dim.Exp(a, "M")), exponent(dim.Exp(a, "m ")), exponent(dim.Exp(a, "m^2")), exponent(dim.Exp(nil, "\xff")), exponent(dim.Exp(d("m^0"), "M"))}, "ErrName", "ErrName", "ErrName", "ErrName", "ErrName", "ErrName", "ErrValue")
}

// P3.3

func TestP3_03Product(t *testing.T) {
	for _, s := range []sample{{11, 2, 8}, {12, 3, 2}, {13, 130, 3}} {
		for range 60 {
			l := s.list(s.Below(6))
			if slices.ContainsFunc(l, func(d []api.Power) bool { return !fits(d) }) {
				continue
			}
			exps := s.exponents(len(l))
			got, e := dim.Product(l, exps)
			due(t, productByHand(l, exps), got, e)
		}
	}
	row(t, []string{one(dim.Product(nil, nil)), one(dim.Product(dims("m"), rats("0"))), one(dim.Product(dims("m,m,m"), rats("1/2 1/3 1/6"))), one(dim.Product(dims("m s,s^2,"), rats("2 -1 7")))}, "", "", "m", "m^2")
}

// TestP3_03OnTheWay has sums and products on the way with more than 400 digits.
func TestP3_03OnTheWay(t *testing.T) {
	long := "m^" + tens
	row(t, []string{
		one(dim.Product(dims(long+","+long), rats(tens+" -"+tens))),
		one(dim.Product(dims(long+","+long+",s"), rats(nines+" -"+nines[:399]+"8 1"))),
		one(dim.Product(dims("m^1/"+nines+",m^1/"+tens+",m^-1/"+nines), rats("1 1 1"))),
		one(dim.Product(dims("m^"+nines+",m,m^-1"), rats("1 1 1"))),
		one(dim.Product(dims(long+",m"), rats("9 1"))),
		one(dim.Product(dims(long+","+long), rats("9 1"))),
		one(dim.Product(dims(long), rats(tens))),
	}, "", "m^"+tens+" s", "m^1/"+tens, "m^"+nines, "m^9"+tens[1:399]+"1", "ErrLarge", "ErrLarge")
}

func TestP3_03Errors(t *testing.T) {
	row(t, []string{one(dim.Product(dims("m,s"), nil)), one(dim.Product(dims("m,s"), rats("1"))), one(dim.Product(dims("m,s"), rats("1 2 3"))), one(dim.Product(nil, rats("1")))}, "ErrFew", "ErrFew", "ErrMany", "ErrMany")
	row(t, []string{one(dim.Product(dims("m,M"), rats("2/2"))), one(dim.Product(dims("m^0,M"), rats("1 1"))), one(dim.Product(dims("m,s"), rats("2/2"))), one(dim.Product(dims("m,s"), rats("1 2 3/3"))), one(dim.Product(dims("m"), rats(over+" x"))), one(dim.Product(dims("m^"+nines+",m"), rats("1 1 1"))), one(dim.Product(dims("m^"+nines+",m"), rats("1 1")))}, "ErrName", "ErrValue", "ErrForm", "ErrForm", "ErrLarge", "ErrMany", "ErrLarge")
}

// P3.4

func TestP3_04Rebase(t *testing.T) {
	for _, s := range []sample{{21, 2, 8}, {22, 3, 4}, {23, 200, 3}} {
		for range 100 {
			a := s.dimension()
			var bases []api.DimBase
			for _, base := range strings.Fields("z m a x abcdefgh") {
				if s.Below(2) == 0 {
					bases = append(bases, api.DimBase{Base: base, Dim: s.dimension()})
				}
			}
			var l [][]api.Power
			var exps []api.Rat
			for _, p := range a {
				l, exps = append(l, d(p.Base)), append(exps, p.Exp)
				for _, b := range bases {
					if b.Base == p.Base {
						l[len(l)-1] = b.Dim
					}
				}
			}
			got, e := dim.Rebase(a, bases)
			due(t, productByHand(l, exps), got, e)
		}
	}
}

func TestP3_04Cases(t *testing.T) {
	rebase := func(s string, bases ...string) string { return one(dim.Rebase(d(s), standIns(bases...))) }
	// All bases are replaced at once: what comes in stays.
	row(t, []string{rebase("m s^2", "m=s", "s=m"), rebase("m", "m=s", "s=kg"), rebase("m s^-1", "m=s"), rebase("m^2 s", "m="), rebase("m^1/2", "m=cm^2 s"), rebase("m", "m=m^2"), rebase("m"), rebase("", "m=s"), rebase("m", "mm=s", "k=s")}, "m^2 s", "s", "", "s", "cm s^1/2", "m^2", "m", "", "m")
	row(t, []string{rebase("a^"+tens+" b^-"+tens, "a=m^"+tens, "b=m^"+tens), rebase("a^"+tens, "a=m^"+tens), rebase("a^"+tens+" b", "a=b^9"), rebase("a^1/"+tens, "a=m^"+tens)}, "", "ErrLarge", "b^9"+tens[1:399]+"1", "m")
	// One by one: the name, the name again, the dimension.
	row(t, []string{rebase("M", "M=s"), rebase("m", "M=s"), rebase("m", "=s"), rebase("m", "abcdefghi=s"), rebase("m", "m=s", "m=s"), rebase("m", "m=s", "s=m", "m=M"), rebase("m", "m=s^0", "m=s"), rebase("m", "m=s", "s=s m", "M=m"), rebase("m", "m=s", "M=M", "m=s"), rebase("", "m=M"), rebase("m^"+over, "M=s")}, "ErrName", "ErrName", "ErrName", "ErrName", "ErrTwice", "ErrTwice", "ErrValue", "ErrOrder", "ErrName", "ErrName", "ErrLarge")
}

// P3.5

func TestP3_05Print(t *testing.T) {
	for s, want := range map[string]string{"": "1", "m": "m", "m^-1": "m^-1", "m^1/2": "m^1/2", "a b^2 c^-3/4": "a*b^2*c^-3/4", "abcdefgh^10 z": "abcdefgh^10*z"} {
		row(t, []string{text(dim.Print(d(s)))}, want)
	}
	row(t, []string{text(dim.Print(d("m^0"))), text(dim.Print(d("s m"))), text(dim.Print(d("m^2/4"))), text(dim.Print(d("m^" + over)))}, "ErrValue", "ErrOrder", "ErrForm", "ErrLarge")
	// Texts of 400 and of 401 bytes.
	digits := nines[:398]
	row(t, []string{text(dim.Print(d("m^" + digits))), text(dim.Print(d("m^" + digits + "9"))), text(dim.Print(d("kg^" + digits))), text(dim.Print(d("k^" + digits[:393] + " mol^2"))), text(dim.Print(d("k^" + digits[:393] + " mol^-2")))}, "m^"+digits, "ErrLarge", "ErrLarge", "ErrLarge", "ErrLarge")
	row(t, []string{text(dim.Print(d("k^" + digits[:392] + " mol^2")))}, "k^"+digits[:392]+"*mol^2")
}

func TestP3_05Parse(t *testing.T) {
	for s, want := range map[string]string{
		"1": "", "m": "m", "abcdefgh": "abcdefgh", "m^2": "m^2", "m^-2": "m^-2", "m^1/2": "m^1/2", "m^-10/3": "m^-10/3", "m^1": "m", "m^0": "", "m*s": "m s", "s*m": "m s", "m*m": "m^2", "m*m^-1": "", "m^1/2*m^1/2": "m", "m^2*s^-1*m^-2": "s^-1", "b*a*c*a": "a^2 b c", "m^0*s^0": "",
	} {
		row(t, []string{one(dim.Parse(s))}, want)
	}
	for _, s := range []string{"", " ", "0", "2", "11", "-1", "1/1", "1*1", "1*m", "m*1", "*", "m*", "*m", "m**s", "m^", "^", "^2", "m^*s", "m^2^2", "m^m", "M", "mM", "m2", "2m", "abcdefghi", "m*abcdefghi", "m s", " m", "m ", "m\n", "m/s", "m^2/4", "m^4/2", "m^2/1", "m^1/0", "m^0/1", "m^0/2", "m^-0", "m^--1", "m^+1", "m^01", "m^1/02", "m^1/-2", "m^/2", "m^1/", "m^-", "m^0.5", "m^1.0", "m^.5", "m^1.", "m^1/2/3", "µ", "m\xff", "m^\u0663", "m^ 2"} {
		row(t, []string{one(dim.Parse(s))}, "ErrForm")
	}
}

// TestP3_05ParseAll compares with a grammar for all texts of at most five of some bytes.
func TestP3_05ParseAll(t *testing.T) {
	grammar := regexp.MustCompile(`^(1|f(\*f)*)$`)
	factor := regexp.MustCompile(`^[ab]{1,8}(\^(0|-?[12][012]*|n))?$`)
	fraction := regexp.MustCompile(`^-?[12][012]*/[12][012]*$`)
	takes := func(s string) bool {
		var shape []string
		for part := range strings.SplitSeq(s, "*") {
			// A fraction counts as a number if it is in lowest terms.
			base, exp, has := strings.Cut(part, "^")
			if num, den, is := strings.Cut(exp, "/"); has && is && fraction.MatchString(exp) && den != "1" && byhand.Gcd(byhand.Amount(num), den) == "1" {
				part = base + "^n"
			}
			if factor.MatchString(part) {
				part = "f"
			}
			shape = append(shape, part)
		}
		return grammar.MatchString(strings.Join(shape, "*"))
	}
	alphabet := "a1^*/-20.b"
	taken := 0
	var try func(s string)
	try = func(s string) {
		_, e := dim.Parse(s)
		want := api.ErrForm
		if takes(s) {
			want = api.OK
			taken++
		}
		if e != want {
			t.Errorf("Parse(%q): %s", s, outcome.Name(e))
		}
		if len(s) < 5 {
			for i := range len(alphabet) {
				try(s + alphabet[i:i+1])
			}
		}
	}
	try("")
	if taken < 100 {
		t.Error(taken)
	}
}

func TestP3_05ParseLimits(t *testing.T) {
	digits := nines[:398]
	row(t, []string{one(dim.Parse("m^" + digits)), one(dim.Parse("m^" + digits + "9")), one(dim.Parse(strings.Repeat("*", 400))), one(dim.Parse(strings.Repeat("*", 401))), one(dim.Parse("1" + strings.Repeat(" ", 400)))}, "m^"+digits, "ErrLarge", "ErrForm", "ErrLarge", "ErrLarge")
	row(t, []string{one(dim.Parse(strings.Repeat("m*", 199) + "m")), one(dim.Parse(strings.Repeat("m*", 199) + "mm")), one(dim.Parse(strings.Repeat("m*", 199) + "mmm"))}, "m^200", "m^199 mm", "ErrLarge")
	// Sums of fractions with as many digits as there is room for.
	a, b := "m^"+nines[:98]+"/"+tens[:98], "m^-"+nines[:95]+"/"+tens[:100]+"1"
	want := byhand.Reduced(byhand.Plus(q(a[2:]), q(b[2:])))
	if got, e := dim.Parse(a + "*" + b); len(a+"*"+b) != 400 || e != api.OK || len(got) != 1 || got[0] != (api.Power{Base: "m", Exp: want}) {
		t.Error(len(a+b), preview(one(got, e)))
	}
}

// P3.6

func TestP3_06Rank(t *testing.T) {
	for _, s := range []sample{{31, 1, 2}, {32, 1, 3}, {33, 1, 5}, {34, 2, 8}} {
		for range 150 {
			l := s.list(s.Below(8))
			row(t, []string{rank(dim.Rank(l))}, rank(rankByHand(l), api.OK))
		}
	}
	for s, want := range map[string]string{"": "0", ",,": "0", "m": "1", "m,m": "1", "m,m^-3/2": "1", "m,s": "2", "m s,m s^-1,m,s": "2", "m s,kg s,kg m": "3", "m s,kg s,kg m^-1": "2", "m^" + nines + ",m^1/" + nines: "1", "a^" + nines + " b^" + tens + ",a^" + tens + " b^" + nines: "2", "a^" + nines + " b^" + tens + ",a^-" + nines + " b^-" + tens: "1"} {
		row(t, []string{rank(dim.Rank(dims(s)))}, want)
	}
	row(t, []string{rank(dim.Rank(nil)), rank(dim.Rank(dims("m,M,m^0"))), rank(dim.Rank(dims("m^0,M"))), rank(dim.Rank(dims("m,s,m^" + over)))}, "0", "ErrName", "ErrValue", "ErrLarge")
}

// P3.7

func TestP3_07Express(t *testing.T) {
	for _, s := range []sample{{41, 1, 2}, {42, 1, 4}, {43, 2, 8}} {
		none := 0
		for range 150 {
			l := s.list(s.Below(7))
			depends := dependent(l)
			exps := s.exponents(len(l))
			for i := range exps {
				if depends[i] {
					exps[i] = q("0")
				}
			}
			row(t, []string{list(dim.Express(l, productByHand(l, exps)))}, list(exps, api.OK))
			other := s.dimension()
			got, e := dim.Express(l, other)
			if rankByHand(append(slices.Clone(l), other)) > rankByHand(l) {
				none++
				row(t, []string{list(got, e)}, "ErrNone")
			} else if e != api.OK || !slices.Equal(productByHand(l, got), other) {
				t.Error(list(got, e))
			}
		}
		if none < 10 {
			t.Error(none)
		}
	}
}

func TestP3_07Cases(t *testing.T) {
	express := func(l, s string) string { return list(dim.Express(dims(l), d(s))) }
	row(t, []string{list(dim.Express(nil, nil)), list(dim.Express(nil, d("m"))), express("", ""), express(",m", ""), express("m", ""), express("m,m,s", "m s^2"), express("m s,m s^-1", "m"), express("m s,m s^-1", "kg"), express("m s", "m"), express("kg m s^-2,m,s", "kg m^2 s^-3"), express("m^2", "m^-1/3")}, "", "ErrNone", "0", "0 0", "0", "1 0 2", "1/2 1/2", "ErrNone", "ErrNone", "1 1 -1", "-1/6")
	row(t, []string{express("M", "s m"), express("m,m^0", "M"), express("m", "s m"), express("m", "s^0"), express("m", "m^"+over)}, "ErrName", "ErrValue", "ErrOrder", "ErrValue", "ErrLarge")
	// Exponents of 400 and of 401 digits, and longer ones on the way.
	row(t, []string{express("m^1/10", "m^"+tens), express("m^1/9", "m^"+tens), express("m^"+nines, "m^1/"+nines), express("m^"+nines, "m^-"+nines), express("m^1/"+nines+" s^"+tens+",s^"+nines, "m^1/"+nines+" s^"+tens), express("m^1/10", "m^"+tens+" s"), express("a^"+tens+" b,b^"+tens+" c,c^"+tens, "a^"+tens+" c^-1/"+tens)}, "ErrLarge", "9"+tens[1:], "ErrLarge", "-1", "1 0", "ErrNone", "1 -1/"+tens+" 0")
}

// P3.8

func TestP3_08Groups(t *testing.T) {
	for _, s := range []sample{{51, 1, 2}, {52, 1, 4}, {53, 2, 8}} {
		for range 150 {
			l := s.list(s.Below(8))
			groups, e := dim.Groups(l)
			depends := dependent(l)
			next := 0
			for i, is := range depends {
				if !is {
					continue
				}
				if e != api.OK || next >= len(groups) || len(groups[next]) != len(l) || !isNone(l, groups[next]) {
					t.Fatal(lists(groups, e))
				}
				for j, x := range groups[next] {
					if j == i && x != q("1") || j != i && (depends[j] || j > i) && x != q("0") {
						t.Error(i, j, x)
					}
				}
				next++
			}
			if next != len(groups) {
				t.Error(next, lists(groups, e))
			}
		}
	}
}

func TestP3_08Cases(t *testing.T) {
	groups := func(l string) string { return lists(dim.Groups(dims(l))) }
	row(t, []string{lists(dim.Groups(nil)), groups(""), groups(","), groups("m"), groups("m,s"), groups("m,m"), groups("m^2,m^3"), groups("m s,m s^-1,m,s"), groups(",s,,s^-1"), groups("m,m^2,m^3")}, "", "1", "1 0 and 0 1", "", "", "-1 1", "-3/2 1", "-1/2 -1/2 1 0 and -1/2 1/2 0 1", "1 0 0 0 and 0 0 1 0 and 0 1 0 1", "-2 1 0 and -3 0 1")
	row(t, []string{groups("m,M,m^0"), groups("m^0,M"), groups("m,m^" + over), groups("s m")}, "ErrName", "ErrValue", "ErrLarge", "ErrOrder")
	row(t, []string{groups("m^1/9,m^" + tens), groups("m^1/10,m^" + tens), groups("m^" + nines + ",m^" + nines), groups("m,m^1/10,s,s^" + nines), groups("m^" + nines + ",m^1/" + nines)}, "-9"+tens[1:]+" 1", "ErrLarge", "-1 1", "-1/10 1 0 0 and 0 0 -"+nines+" 1", "ErrLarge")
}
