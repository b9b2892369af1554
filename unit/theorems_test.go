package unit_test

import (
	"slices"
	"strings"
	"testing"

	"metewand/api"
	"metewand/dim"
	"metewand/internal/byhand"
	"metewand/internal/outcome"
	"metewand/unit"
)

// like returns texts, the units of which have one dimension.
func like(s *sample, b api.UnitBook, version int) []string {
	first := s.text(b)
	if s.Below(2) == 0 {
		first = b.Entries[s.Below(len(b.Entries))].Name
	}
	var l []string
	for _, name := range []string{first, s.text(b), s.text(b), s.text(b), first + " m/m", first + " s s^-1"} {
		if _, e := unit.Convert(b, version, q("1"), first, name); e == api.OK {
			l = append(l, name)
		}
	}
	for _, x := range b.Entries {
		if _, e := unit.Convert(b, version, q("1"), first, x.Name); e == api.OK {
			l = append(l, x.Name)
		}
	}
	return l
}

// P4.8

func TestP4_08Back(t *testing.T) {
	pairs := 0
	for _, s := range []sample{{71, 1}, {72, 8}} {
		for range 40 {
			b := s.book()
			version := s.Below(10)
			for range 10 {
				get := func(x api.Rat, from, to string) api.Rat {
					return outcome.Must[api.Rat](t)(unit.Convert(b, version, x, from, to))
				}
				l, x := like(&s, b, version), s.number()
				for i, from := range l {
					for _, to := range l[i:] {
						third := l[s.Below(len(l))]
						if from != to {
							pairs++
						}
						there := get(x, from, to)
						if back := get(there, to, from); back != x {
							t.Fatal(b, version, x, from, to, back)
						}
						if other := get(get(x, from, third), third, to); other != there {
							t.Fatal(b, version, x, from, third, to, other)
						}
					}
				}
			}
		}
	}
	if pairs < 500 {
		t.Error(pairs)
	}
}

// P4.9

func TestP4_09Step(t *testing.T) {
	withOffset := 0
	for _, s := range []sample{{81, 1}, {82, 8}} {
		for range 150 {
			b := s.book()
			version := s.Below(10)
			l, x, y := like(&s, b, version), s.number(), s.number()
			for _, from := range l {
				for _, to := range l {
					convert := func(x api.Rat) api.Rat { return outcome.Must[api.Rat](t)(unit.Convert(b, version, x, from, to)) }
					step := func(x api.Rat) api.Rat { return outcome.Must[api.Rat](t)(unit.Step(b, version, x, from, to)) }
					if step(byhand.Difference(x, y)) != byhand.Difference(convert(x), convert(y)) || step(plus(x, y)) != plus(step(x), step(y)) {
						t.Fatal(b, version, x, y, from, to)
					}
					_, first, _ := unit.Resolve(b, version, from)
					_, second, _ := unit.Resolve(b, version, to)
					if first.Num == "0" && second.Num == "0" {
						if step(x) != convert(x) {
							t.Fatal(b, version, x, from, to)
						}
					} else if first != second {
						withOffset++
					}
				}
			}
		}
	}
	if withOffset < 20 {
		t.Error(withOffset)
	}
}

// P4.10

func TestP4_10Product(t *testing.T) {
	found := 0
	for _, s := range []sample{{91, 1}, {92, 20}} {
		for range 60 {
			b := s.book()
			version := s.Below(10)
			for range 20 {
				first, second := s.text(b), s.text(b)
				u, _, e := unit.Resolve(b, version, first)
				v, _, f := unit.Resolve(b, version, second)
				// Behind a slash only one factor has the opposite sign.
				product, _, g := unit.Resolve(b, version, first+" "+second)
				quotient, _, h := unit.Resolve(b, version, first+"/"+second)
				if g == api.OK && (e != api.OK || f != api.OK || product.Factor != times(u.Factor, v.Factor) || !slices.Equal(product.Dim, outcome.Must[[]api.Power](t)(dim.Mul(u.Dim, v.Dim)))) {
					t.Fatal(b, version, first, second, product)
				}
				if strings.ContainsAny(second, " /") || h != api.OK {
					continue
				}
				found++
				if e != api.OK || f != api.OK || quotient.Factor != times(u.Factor, inverse(v.Factor)) || !slices.Equal(quotient.Dim, outcome.Must[[]api.Power](t)(dim.Div(u.Dim, v.Dim))) {
					t.Fatal(b, version, first, second, quotient)
				}
			}
		}
	}
	if found < 100 {
		t.Error(found)
	}
}

// P4.11

func TestP4_11Short(t *testing.T) {
	some := 0
	for _, s := range []sample{{101, 1}, {102, 12}} {
		for range 40 {
			b := s.book()
			version := s.Below(10)
			for range 15 {
				name := s.text(b)
				u, offset, e := unit.Resolve(b, version, name)
				if e != api.OK {
					continue
				}
				short, e := unit.Short(b, version, u.Factor, u.Dim)
				if e == api.OK {
					some++
					v, zero, e := unit.Resolve(b, version, short)
					if e != api.OK || v.Factor != u.Factor || !slices.Equal(v.Dim, u.Dim) || zero != q("0") {
						t.Fatal(b, version, name, short)
					}
				}
				// The text itself is one of those that are looked at, if it has no offset, two factors, and no great exponents.
				if strings.Count(name, " ")+strings.Count(strings.TrimPrefix(name, "1/"), "/") < 2 && !strings.ContainsAny(name, "456789") && offset.Num == "0" && (e != api.OK || len(short) > len(name)) {
					t.Fatal(b, version, name, short, e)
				}
			}
		}
	}
	if some < 100 {
		t.Error(some)
	}
}

// P4.12

func TestP4_12Version(t *testing.T) {
	moved, unchanged := 0, 0
	for _, s := range []sample{{111, 1}, {112, 12}} {
		for range 80 {
			b := s.book()
			for range 20 {
				x, name, from, to := s.number(), s.text(b), s.Below(10), s.Below(10)
				if s.Below(2) == 0 {
					name = b.Entries[s.Below(len(b.Entries))].Name
				}
				there, e := unit.Move(b, x, name, from, to)
				if e != api.OK {
					continue
				}
				if back := outcome.Must[api.Rat](t)(unit.Move(b, there, name, to, from)); back != x {
					t.Fatal(b, x, name, from, to, back)
				}
				if there != x {
					moved++
				}
				if sameEntries(b, name, from, to) {
					unchanged++
					if there != x {
						t.Fatal(b, x, name, from, to, there)
					}
				}
			}
		}
	}
	if moved < 20 || unchanged < 100 {
		t.Error(moved, unchanged)
	}
}

// sameEntries tells whether the words of a text stand for the same in both versions.
func sameEntries(b api.UnitBook, name string, from, to int) bool {
	parts, _ := factorsByHand(name)
	for _, part := range parts {
		if found(findByHand(b, from, part[2])) != found(findByHand(b, to, part[2])) {
			return false
		}
	}
	return true
}

// P4.13

// based returns a book with other base units: numbers of them are those of the old ones times what a base stands for.
func based(b api.UnitBook, scales map[string]api.Rat) api.UnitBook {
	entries := slices.Clone(b.Entries)
	for i, x := range entries {
		m := measure{q("1"), q("0"), nil}
		for _, p := range x.Dim {
			// The exponents of the books are multiples of 1/6.
			n := times(p.Exp, q("6")).Num
			exp := int(n[len(n)-1] - '0')
			if len(byhand.Amount(n)) == 2 {
				exp += 10
			}
			if byhand.Negative(n) {
				exp = -exp
			}
			m.gain(scales[p.Base], nil, exp)
		}
		entries[i].Factor, entries[i].Offset = times(x.Factor, m.factor), times(x.Offset, m.factor)
	}
	b.Entries = entries
	return b
}

func TestP4_13Base(t *testing.T) {
	converted := 0
	for _, s := range []sample{{121, 1}, {122, 6}} {
		for range 40 {
			b := s.book()
			// Each scale is the power 6 of these numbers.
			scales := map[string]api.Rat{"m": s.positive(), "s": s.positive(), "kg": s.positive(), "temp": s.positive()}
			other := based(b, scales)
			version := s.Below(10)
			for range 10 {
				l := append(like(&s, b, version), s.text(b))
				for _, from := range l {
					to, x := l[s.Below(len(l))], s.number()
					want := amount(unit.Convert(b, version, x, from, to))
					if want != "ErrUnits" && !strings.HasPrefix(want, "Err") {
						converted++
					}
					row(t, []string{amount(unit.Convert(other, version, x, from, to))}, want)
				}
			}
		}
	}
	if converted < 300 {
		t.Error(converted)
	}
}

// P4.14

func TestP4_14More(t *testing.T) {
	still := 0
	for _, s := range []sample{{131, 1}, {132, 12}} {
		for range 60 {
			b := s.book()
			version := s.Below(10)
			more, entries := b, b
			more.Prefixes = append(slices.Clone(b.Prefixes), api.UnitPrefix{Name: s.pick("a M K kkk h s"), Factor: s.positive()})
			entries.Entries = append(slices.Clone(b.Entries), api.UnitEntry{Name: s.pick("x km kkm mmh kh cs ms"), Factor: s.positive(), Offset: q("0"), Dim: s.dimension(), Prefixed: s.Below(2), Until: 9})
			for range 30 {
				name := s.text(b)
				parts, e := factorsByHand(name)
				want := one(unit.Resolve(b, version, name))
				if e != api.OK || strings.HasPrefix(want, "Err") || slices.ContainsFunc(parts, func(part []string) bool {
					prefix, _, _ := findByHand(b, version, part[2])
					return prefix >= 0
				}) {
					continue
				}
				still++
				row(t, []string{one(unit.Resolve(more, version, name))}, want)
				// The new entry's name may be another one's.
				if unit.Check(entries) == api.OK {
					row(t, []string{one(unit.Resolve(entries, version, name))}, want)
				}
			}
		}
	}
	if still < 200 {
		t.Error(still)
	}
}
