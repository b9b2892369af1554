package affine_test

import (
	"testing"

	"metewand/affine"
	"metewand/api"
	"metewand/enclose"
	"metewand/internal/byhand"
	"metewand/internal/outcome"
)

// calm are the samples with which no result is too large.
func calm(seed byhand.Chance) []*sample { return kinds(seed)[:3] }

// few returns two forms whose sum has no more terms than a form may have.
func (s *sample) few() (f, g api.Affine) {
	f, g = s.small(api.AffineTerms/2), s.small(api.AffineTerms/2)
	if s.Below(4) == 0 {
		g = f
	}
	return f, g
}

// anywhere returns a setting, which is often at a corner, and does not set a noise.
func (s *sample) anywhere(not int, forms ...api.Affine) []api.AffineTerm {
	set := s.setting()
	if all := corners(forms...); s.Below(2) == 0 {
		set = all[s.Below(len(all))]
	}
	var rest []api.AffineTerm
	for _, term := range set {
		if term.Noise != not {
			rest = append(rest, term)
		}
	}
	return rest
}

func valueOf(t *testing.T, f api.Affine, set []api.AffineTerm) api.Rat {
	t.Helper()
	return outcome.Must[api.Rat](t)(affine.Value(f, set))
}

func rangeOf(t *testing.T, f api.Affine) api.Enclosure {
	t.Helper()
	return outcome.Must[api.Enclosure](t)(affine.Range(f))
}

func width(a api.Enclosure) api.Rat { return minus(a.Hi, a.Lo) }

// within tells whether b has all numbers of a.
func within(a, b api.Enclosure) bool { return compare(b.Lo, a.Lo) <= 0 && compare(a.Hi, b.Hi) <= 0 }

// P7.10

func TestP7_10Linear(t *testing.T) {
	for _, s := range calm(101) {
		for range 60 {
			f, g := s.few()
			set, x := s.anywhere(0, f, g), s.rat()
			of := func(f api.Affine, e api.Errno) api.Rat {
				t.Helper()
				return valueOf(t, get(t)(f, e), set)
			}
			a, b := of(f, api.OK), of(g, api.OK)
			if of(affine.Plus(f, g)) != plus(a, b) || of(affine.Minus(f, g)) != minus(a, b) || of(affine.Scale(f, x)) != times(x, a) || of(affine.Shift(f, x)) != plus(a, x) {
				t.Fatal(text(f), "|", text(g), "|", written(x))
			}
		}
	}
}

// P7.11

func TestP7_11Same(t *testing.T) {
	shared := map[bool]int{}
	for _, s := range calm(111) {
		for range 60 {
			f, g := s.few()
			row(t, []string{one(affine.Minus(f, f))}, "0")
			sum := rangeOf(t, get(t)(affine.Plus(f, g)))
			wide := outcome.Must[api.Enclosure](t)(enclose.Plus(rangeOf(t, f), rangeOf(t, g)))
			common, e := affine.Shared(f, g)
			shared[len(common) == 0]++
			if e != api.OK || !within(sum, wide) || len(common) == 0 && sum != wide {
				t.Fatal(text(f), "|", text(g), outcome.WrittenSpan(sum), outcome.WrittenSpan(wide))
			}
		}
	}
	if shared[true] < 30 || shared[false] < 30 {
		t.Error(shared)
	}
	row(t, []string{one(affine.Minus(form(nines+", "+nines+"@1, 1/"+nines+"@30"), form(nines+", "+nines+"@1, 1/"+nines+"@30")))}, "0")
}

// P7.12

func TestP7_12Reached(t *testing.T) {
	for _, s := range calm(121) {
		for range 60 {
			f := s.form()
			a := rangeOf(t, f)
			var least, most []api.AffineTerm
			for _, term := range f.Terms {
				sign := q("1")
				if byhand.Negative(term.Size.Num) {
					sign = q("-1")
				}
				most = at(most, term.Noise, sign)
				least = at(least, term.Noise, byhand.Negated(sign))
			}
			x := valueOf(t, f, s.anywhere(0, f))
			if compare(a.Lo, x) > 0 || compare(x, a.Hi) > 0 {
				t.Fatal(text(f), outcome.WrittenSpan(a), written(x))
			}
			row(t, []string{number(affine.Value(f, least)), number(affine.Value(f, most))}, written(a.Lo), written(a.Hi))
		}
	}
}

// reaches ends the test unless there is a value from -1 to 1 of a noise, which the setting does not set, with which the value of a form is x.
func reaches(t *testing.T, f api.Affine, noise int, set []api.AffineTerm, x api.Rat) {
	t.Helper()
	missing := minus(x, valueOf(t, f, set))
	if missing.Num == "0" {
		return
	}
	size := modelOf(f).size(noise)
	if size.Num == "0" {
		t.Fatal(text(f), "does not reach", written(x))
	}
	set = at(set, noise, divided(missing, size))
	row(t, []string{number(affine.Value(f, set))}, written(x)) // ErrValue unless the noise can have the value
}

// P7.13

func TestP7_13Product(t *testing.T) {
	for _, s := range calm(131) {
		for range 60 {
			f, g := s.small(2), s.small(3)
			noise := s.fresh(f, g)
			set := s.anywhere(noise, f, g)
			product := get(t)(affine.Times(f, g, noise))
			reaches(t, product, noise, set, times(valueOf(t, f, set), valueOf(t, g, set)))
		}
	}
}

// P7.14

func TestP7_14Square(t *testing.T) {
	narrower := 0
	for _, s := range calm(141) {
		for range 60 {
			f := s.small(4)
			noise := s.fresh(f)
			set := s.anywhere(noise, f)
			square, product := get(t)(affine.Square(f, noise)), get(t)(affine.Times(f, f, noise))
			x := valueOf(t, f, set)
			reaches(t, square, noise, set, times(x, x))
			switch compare(width(rangeOf(t, square)), width(rangeOf(t, product))) {
			case 1:
				t.Fatal(text(f), text(square), text(product))
			case -1:
				narrower++
			}
		}
	}
	if narrower < 60 {
		t.Error(narrower)
	}
}

// P7.15

func TestP7_15Inverse(t *testing.T) {
	signs := map[bool]int{}
	for _, s := range calm(151) {
		for range 60 {
			f := s.away(s.small(4))
			noise := s.fresh(f)
			set := s.anywhere(noise, f)
			a := rangeOf(t, f)
			if hasZero(a) {
				t.Fatal(text(f))
			}
			signs[byhand.Negative(a.Lo.Num)]++
			inverse := get(t)(affine.Inverse(f, noise))
			x := valueOf(t, f, set)
			reaches(t, inverse, noise, set, divided(q("1"), x))
			got := rangeOf(t, inverse)
			if got.Lo != divided(q("1"), a.Hi) || got.Hi != divided(q("1"), a.Lo) {
				t.Fatal(text(f), text(inverse), outcome.WrittenSpan(got))
			}
			row(t, []string{span(enclose.Over(in("1..1"), a))}, outcome.WrittenSpan(got))
		}
	}
	if signs[true] < 30 || signs[false] < 30 {
		t.Error(signs)
	}
}

// P7.16

func TestP7_16Fixed(t *testing.T) {
	for _, s := range calm(161) {
		for range 60 {
			f, x := s.form(), s.between()
			noise := 1 + s.Below(30)
			if n := len(f.Terms); n > 0 {
				noise = f.Terms[s.Below(n)].Noise
			}
			fixed := get(t)(affine.Fix(f, noise, x))
			set := s.anywhere(noise, f)
			want := valueOf(t, f, at(set, noise, x))
			// The noise has no influence any more.
			row(t, []string{number(affine.Value(fixed, set)), number(affine.Value(fixed, at(set, noise, s.between())))}, written(want), written(want))
			wide, narrow := rangeOf(t, f), rangeOf(t, fixed)
			size := amount(modelOf(f).size(noise))
			if !within(narrow, wide) || minus(width(wide), width(narrow)) != plus(size, size) {
				t.Fatal(text(f), text(fixed))
			}
		}
	}
}

// P7.17

func TestP7_17Merged(t *testing.T) {
	for _, s := range calm(171) {
		for range 60 {
			f := s.form()
			noise := s.fresh(f)
			set := s.anywhere(noise, f)
			for many := range len(f.Terms) + 2 {
				merged := get(t)(affine.Merge(f, many, noise))
				row(t, []string{span(affine.Range(merged))}, outcome.WrittenSpan(rangeOf(t, f)))
				reaches(t, merged, noise, set, valueOf(t, f, set))
				if len(merged.Terms) > many+1 {
					t.Fatal(text(f), many, text(merged))
				}
				// The new noise has as many values as all that it stands for.
				value := s.between()
				all := at(set, noise, value)
				for _, term := range f.Terms {
					if modelOf(merged).size(term.Noise) == q("0") {
						sign := value
						if byhand.Negative(term.Size.Num) {
							sign = byhand.Negated(value)
						}
						all = at(all, term.Noise, sign)
					}
				}
				row(t, []string{number(affine.Value(merged, all))}, number(affine.Value(f, all)))
			}
		}
	}
}

// P7.18

func TestP7_18Below(t *testing.T) {
	wiser := 0
	for _, s := range calm(181) {
		for range 100 {
			f, g := s.few()
			if s.Below(3) == 0 {
				g = get(t)(affine.Shift(f, s.rat()))
			}
			zero := in("0..0")
			got := verdict(affine.Below(f, g))
			row(t, []string{got, verdict(affine.Below(g, f))}, verdict(enclose.Below(rangeOf(t, get(t)(affine.Minus(f, g))), zero)), verdict(enclose.Below(rangeOf(t, get(t)(affine.Minus(g, f))), zero)))
			switch wide := verdict(enclose.Below(rangeOf(t, f), rangeOf(t, g))); {
			case wide == got:
			case wide != "Maybe":
				t.Fatal(text(f), "|", text(g), got, wide)
			default:
				wiser++
			}
		}
	}
	if wiser < 20 {
		t.Error(wiser)
	}
}

// P7.19

func TestP7_19Span(t *testing.T) {
	for _, s := range calm(191) {
		for range 60 {
			a := modelOf(s.small(3)).span()
			row(t, []string{span(affine.Range(get(t)(affine.Of(a, 1+s.Below(30)))))}, outcome.WrittenSpan(a))
		}
	}
	row(t, []string{span(affine.Range(get(t)(affine.Of(in("-"+nines+".."+nines), 1)))), span(affine.Range(get(t)(affine.Of(in(nines+".."+nines), 1))))}, "-"+nines+".."+nines, nines+".."+nines)
}
