package unit_test

import (
	"slices"
	"strings"
	"sync"
	"testing"

	"metewand/api"
	"metewand/internal/byhand"
	"metewand/internal/outcome"
	"metewand/unit"
)

// oddBooks returns books of all kinds, valid ones and others.
func oddBooks() []api.UnitBook {
	s := sample{141, 40}
	return []api.UnitBook{
		{}, book(), largeBook(), s.book(), {Prefixes: make([]api.UnitPrefix, 1)}, {Entries: make([]api.UnitEntry, 1)}, {Entries: make([]api.UnitEntry, 5000)}, {Prefixes: make([]api.UnitPrefix, 5000)},
		with(func(b *api.UnitBook) { b.Prefixes[1] = b.Prefixes[0] }), with(func(b *api.UnitBook) { b.Prefixes[0].Factor = q("-1") }),
		renamed(0, "\xff\x00"), renamed(0, strings.Repeat("m", 5000)), renamed(0, "s"),
		changed(0, func(x *api.UnitEntry) { x.Factor = api.Rat{} }), changed(0, func(x *api.UnitEntry) { x.Offset = api.Rat{Num: "-", Den: "\xff"} }),
		changed(0, func(x *api.UnitEntry) { x.Dim = []api.Power{{}} }), changed(0, func(x *api.UnitEntry) { x.Prefixed = -1 << 63 }), changed(0, func(x *api.UnitEntry) { x.Since, x.Until = -1<<63, 1<<63-1 }),
	}
}

func oddNumbers() []api.Rat {
	return []api.Rat{q("0"), q("1"), q("1000"), q("-7/3"), q(nines), q("1/" + nines), q("2/4"), q("x"), q(over), {}, {Num: "1"}, {Den: "\xff"}}
}

func oddTexts() []string {
	return []string{"", "1", "m", "km/h", "C", "C/s", "league", "kg m^2/s^-3", "a^9 b^-9", "c", "ft", "abcdefg", "m/", "1/1", "m m m m m", "\xff", "m^\x00", strings.Repeat("m", 5000), strings.Repeat("m/", 5000)}
}

func oddDims() [][]api.Power {
	return [][]api.Power{nil, d("m"), d("m s^-2"), d("m^" + nines), d("s m"), d("M^1/0"), {{}}, slices.Repeat(d("m"), 3000)}
}

// TestP1NoPanic: each function returns, whatever its arguments are.
func TestP1NoPanic(t *testing.T) {
	seed := byhand.Chance(142)
	books, numbers, texts, dims := oddBooks(), oddNumbers(), oddTexts(), oddDims()
	all := []int{-1 << 63, -1, 0, 3, 4, 9, 10, 1<<63 - 1}
	for _, b := range books {
		for range 60 {
			outcomes(b, all[seed.Below(len(all))], all[seed.Below(len(all))], numbers[seed.Below(len(numbers))], texts[seed.Below(len(texts))], texts[seed.Below(len(texts))], dims[seed.Below(len(dims))])
		}
		unit.List(b, 0, make([]string, 5000))
		unit.List(b, 0, texts)
	}
}

// TestR1 is the order of errors: of the book, of versions, of numbers, of texts one by one, then those that the promises name, and ErrLarge.
func TestR1(t *testing.T) {
	for _, b := range oddBooks() {
		e := unit.Check(b)
		if e == api.OK {
			continue
		}
		row(t, outcomes(b, -1, -1, q("x"), "", "", d("M")), slices.Repeat([]string{outcome.Name(e)}, 9)...)
	}
	for _, version := range []int{-1 << 63, -1, 10, 1<<63 - 1} {
		got := outcomes(book(), version, -1, q("x"), "", "", d("M"))
		row(t, got, "OK", "ErrRange", "ErrRange", "ErrRange", "ErrRange", "ErrRange", "ErrForm", "ErrRange", "ErrRange")
		row(t, []string{amount(unit.Move(book(), q("x"), "", 0, version)), units(unit.List(book(), version, make([]string, 41)))}, "ErrRange", "ErrRange")
	}
	for _, version := range []int{0, 9} {
		row(t, outcomes(book(), version, 9-version, q("1"), "s", "m", d("s")), "OK", "-1, 2", "1 s", "ErrUnits", "ErrUnits", "s = 1 s, m = 1 m", "0 1 2 3 4 5 6 7 8 9", "1", "s")
	}
	for _, x := range []string{"x", "2/4", "1/0", over} {
		want := "ErrForm"
		if x == over {
			want = "ErrLarge"
		}
		row(t, []string{convert(x, "", ""), step(x, "", ""), move(x, "", 0, 0), short(x, "M")}, want, want, want, want)
	}
	// Each text's errors come before those of the next one, and all of them before what is wrong with both.
	for _, first := range oddTexts() {
		_, _, e := unit.Resolve(book(), 0, first)
		for _, second := range oddTexts() {
			_, _, f := unit.Resolve(book(), 0, second)
			want := e
			if e == api.OK {
				want = f
			}
			if want != api.OK {
				row(t, []string{convert("1", first, second), step("1", first, second)}, outcome.Name(want), outcome.Name(want))
			}
		}
	}
	x := func(from, to string) string { return amount(unit.Convert(largeBook(), 0, q(tens), from, to)) }
	row(t, []string{x("a^9", "m"), x("a^9", "a"), x("c", "d")}, "ErrNone", "ErrUnits", "ErrLarge")
}

// TestR2 is that nothing is remembered between calls, and that calls at the same time do not disturb each other.
func TestR2(t *testing.T) {
	s := sample{143, 60}
	b := s.book()
	u, _, _ := unit.Resolve(book(), 3, "km/h")
	want := outcomes(book(), 3, 4, u.Factor, "km/h", "league/s", u.Dim)
	var all sync.WaitGroup
	for range 8 {
		all.Go(func() {
			for range 5 {
				if got := outcomes(book(), 3, 4, u.Factor, "km/h", "league/s", u.Dim); !slices.Equal(got, want) {
					t.Errorf("got %q, want %q", got, want)
				}
				outcomes(b, 7, 2, q("3"), "km", "m", nil)
			}
		})
	}
	all.Wait()
}

// TestR3 is that results are zero values if there is an error.
func TestR3(t *testing.T) {
	large := largeBook()
	for i, b := range append(oddBooks(), large, large, large, large, large) {
		s := append(oddTexts(), "a^2", "zz", "a^2 b", "C^1", "g m")[i]
		prefix, entry, e := unit.Find(b, 4, s)
		if e != api.OK && (prefix != 0 || entry != 0) {
			t.Error(i, prefix, entry, e)
		}
		u, offset, e := unit.Resolve(b, 4, s)
		if e != api.OK && (u.Name != "" || u.Factor != (api.Rat{}) || len(u.Dim) > 0 || offset != (api.Rat{})) {
			t.Error(i, u, offset, e)
		}
		for _, x := range oddNumbers() {
			first, e := unit.Convert(b, 4, x, "c", s)
			second, f := unit.Step(b, 4, x, s, "c")
			third, g := unit.Move(b, x, s, 3, 9)
			if e != api.OK && first != (api.Rat{}) || f != api.OK && second != (api.Rat{}) || g != api.OK && third != (api.Rat{}) {
				t.Error(i, x, e, f, g)
			}
			short, e := unit.Short(b, 4, x, d("kg m"))
			if e != api.OK && short != "" {
				t.Error(i, x, short, e)
			}
		}
		l, e := unit.List(b, 4, []string{"m", "g", "1", s, s})
		if e == api.OK || len(l) > 0 {
			t.Error(i, l, e)
		}
		all, e := unit.Versions(b, s)
		if e != api.OK && len(all) > 0 {
			t.Error(i, all, e)
		}
	}
}

// TestR4 is that no argument is changed, and that no result shares memory with an argument or another result.
func TestR4(t *testing.T) {
	b, dimension, texts := book(), d("m s^-1"), []string{"km/h", "m/s", "m s^-1", "zz"}
	before := outcomes(b, 0, 9, q("5/18"), "league/s", "m/s", dimension)
	other := outcome.Must[[]api.Unit](t)(unit.List(b, 0, texts[:3]))
	_ = append(other, api.Unit{Name: "changed"})
	for i := range other {
		other[i].Dim[0] = api.Power{Base: "changed"}
		_ = append(other[i].Dim[:1], api.Power{Base: "changed"})
		if i < 2 && outcome.WrittenDim(other[i+1].Dim) != "m s^-1" {
			t.Error(i, other[i+1])
		}
	}
	u, _, _ := unit.Resolve(b, 0, "m")
	u.Dim[0] = api.Power{Base: "changed"}
	all := outcome.Must[[]int](t)(unit.Versions(b, "m"))
	all[0] = 77
	row(t, outcomes(b, 0, 9, q("5/18"), "league/s", "m/s", dimension), before...)
	row(t, append([]string{outcome.WrittenDim(dimension)}, texts...), "m s^-1", "km/h", "m/s", "m s^-1", "zz")
	for i, x := range b.Entries {
		if y := book().Entries[i]; x.Name != y.Name || x.Factor != y.Factor || x.Offset != y.Offset || !slices.Equal(x.Dim, y.Dim) || x.Since != y.Since || x.Until != y.Until {
			t.Error(x)
		}
	}
}

// TestLong has as many entries and prefixes as there may be, with long numbers, and dimensions of many bases.
func TestLong(t *testing.T) {
	seed := byhand.Chance(144)
	number := func() api.Rat {
		return byhand.Reduced(byhand.Add(byhand.Amount(seed.Number(130)), "1"), byhand.Add(byhand.Amount(seed.Number(130)), "1"))
	}
	var b api.UnitBook
	for i := range 10 {
		b.Prefixes = append(b.Prefixes, api.UnitPrefix{Name: string(rune('a' + i)), Factor: number()})
	}
	var wide []api.Power
	for i := range 300 {
		wide = append(wide, api.Power{Base: string([]byte{byte('a' + i/26), byte('a' + i%26)}), Exp: q("-1/3")})
	}
	for i := range 20 {
		x := entry("Z"+string(rune('a'+i)), "1", "0", "", 1)
		x.Factor, x.Dim = number(), wide
		b.Entries = append(b.Entries, x)
	}
	u, _, e := unit.Resolve(b, 0, "Za Zb/Zc")
	if e != api.OK || !slices.Equal(u.Dim, wide) {
		t.Error(e, len(u.Dim))
	}
	row(t, []string{text(unit.Short(b, 0, b.Entries[7].Factor, wide)), text(unit.Short(b, 0, inverse(b.Prefixes[3].Factor), nil)), text(unit.Short(b, 0, q("17"), wide))}, "Zh", "Za/dZa", "ErrNone")
}
