package unit_test

import (
	"maps"
	"slices"
	"strings"
	"testing"

	"metewand/api"
	"metewand/internal/byhand"
	"metewand/internal/outcome"
	"metewand/unit"
)

// with returns the book of the examples with a change.
func with(change func(b *api.UnitBook)) api.UnitBook {
	b := book()
	change(&b)
	return b
}

// changed returns the book of the examples in which an entry is changed.
func changed(i int, change func(x *api.UnitEntry)) api.UnitBook {
	return with(func(b *api.UnitBook) { change(&b.Entries[i]) })
}

// renamed returns the book of the examples in which an entry has another name.
func renamed(i int, name string) api.UnitBook {
	return changed(i, func(x *api.UnitEntry) { x.Name = name })
}

// P4.1

func checked(t *testing.T, want api.Errno, books ...api.UnitBook) {
	t.Helper()
	for i, b := range books {
		if e := unit.Check(b); e != want {
			t.Errorf("%d: %s, not %s", i, outcome.Name(e), outcome.Name(want))
		}
	}
}

func TestP4_01CheckPrefixes(t *testing.T) {
	of := func(s string) api.UnitBook {
		return with(func(b *api.UnitBook) { b.Prefixes = prefixes(s) })
	}
	ten := "a=1 b=1 c=1 d=1 e=1 f=1 g=1 h=1 i=1 j=1"
	checked(t, api.OK, api.UnitBook{}, book(), of(""), of(ten), of("abcdef=1/2 ABCXYZ=2 k=3 K=3 z=1 Z=1"), of("m=1 g=2 league=3"), of("k="+nines+"/"+tens))
	checked(t, api.ErrMany, of(ten+" k=1"), of(strings.Repeat("=0 ", 11)))
	checked(t, api.ErrName, of("=1"), of("abcdefg=1"), of("k2=1"), of("k-=1"), of("µ=1"), of("k\xff=1"), of("k\x00k=1"), of("k^=1"), of("[=1"), of("`=1"), of("@=1"), of("{=1"), of("k=1 k2=0"))
	checked(t, api.ErrTwice, of("k=1 k=1"), of("k=1 c=2 k=3"), of("k=1 c=2 c=x"))
	checked(t, api.ErrForm, of("k=x"), of("k=2/4"), of("k=1/0"), of("k=-2/4"), of("k=0/2"), of("k=1/-2"))
	checked(t, api.ErrLarge, of("k="+over), of("k=1/"+over), of("k=-"+over))
	checked(t, api.ErrValue, of("k=0"), of("k=-1"), of("k=-1/2"))
	// Each prefix is checked before the next one, and all are before the entries.
	checked(t, api.ErrValue, of("k=0 k=1"), of("k=0 k2=x"), with(func(b *api.UnitBook) { b.Prefixes[1].Factor, b.Entries[0].Name = q("0"), "" }), with(func(b *api.UnitBook) {
		b.Prefixes[1].Factor, b.Entries = q("0"), make([]api.UnitEntry, 21)
	}))
	checked(t, api.ErrForm, of("k=x k=1"), of("k=x k=0"))
}

func TestP4_01CheckEntries(t *testing.T) {
	var all []api.UnitEntry
	for i := range 21 {
		all = append(all, entry(string(rune('a'+i)), "1", "0", "", 1))
	}
	of := func(l ...api.UnitEntry) api.UnitBook { return api.UnitBook{Entries: l} }
	checked(t, api.OK, of(all[:20]...), of(entry("abcdef", nines, "-"+nines, "a^-1/2 b", 0)), of(entry("Z", "1/2", "0", "", 1)), of(entry("k", "1", "0", "m", 0), entry("K", "1", "0", "m", 0)))
	checked(t, api.ErrMany, of(all...), of(make([]api.UnitEntry, 21)...))
	for _, name := range []string{"", "abcdefg", "m2", "m ", "µ", "m\xff", "1", "m^", "["} {
		checked(t, api.ErrName, renamed(0, name), renamed(8, name))
	}
	factor := func(x string) api.UnitBook {
		return changed(2, func(y *api.UnitEntry) { y.Factor = q(x) })
	}
	checked(t, api.ErrValue, factor("0"), factor("-1"), factor("-1/2"))
	checked(t, api.ErrForm, factor("x"), factor("2/4"), factor("-2/4"), factor("0/2"), changed(2, func(x *api.UnitEntry) { x.Factor = api.Rat{} }))
	checked(t, api.ErrLarge, factor(over), factor("-"+over))
	offset := func(x string) api.UnitBook {
		return changed(2, func(y *api.UnitEntry) { y.Offset = q(x) })
	}
	checked(t, api.OK, offset("0"), offset("1"), offset("-1"), offset("1/2"))
	checked(t, api.ErrForm, offset("x"), offset("2/4"), offset("0/2"), offset("-0"), changed(2, func(x *api.UnitEntry) { x.Offset = api.Rat{} }))
	checked(t, api.ErrLarge, offset(over))
	dimension := func(s string) api.UnitBook {
		return changed(2, func(x *api.UnitEntry) { x.Dim = d(s) })
	}
	checked(t, api.OK, dimension(""), dimension("m s^-1/2"))
	row(t, []string{outcome.Name(unit.Check(dimension("M"))), outcome.Name(unit.Check(dimension("s m"))), outcome.Name(unit.Check(dimension("m^2/4"))), outcome.Name(unit.Check(dimension("m^0"))), outcome.Name(unit.Check(dimension("m^" + over)))}, "ErrName", "ErrOrder", "ErrForm", "ErrValue", "ErrLarge")
}

func TestP4_01CheckVersions(t *testing.T) {
	prefixed := func(n int, offset string) api.UnitBook {
		return changed(2, func(x *api.UnitEntry) { x.Prefixed, x.Offset = n, q(offset) })
	}
	checked(t, api.OK, prefixed(0, "0"), prefixed(1, "0"), prefixed(0, "5"))
	checked(t, api.ErrKind, prefixed(2, "0"), prefixed(-1, "0"), prefixed(1, "5"), prefixed(1, "-1/2"), prefixed(2, "5"))
	span := func(since, until int) api.UnitBook {
		return changed(2, func(x *api.UnitEntry) { *x = during(*x, since, until) })
	}
	checked(t, api.OK, span(0, 0), span(9, 9), span(0, 9), span(4, 5))
	checked(t, api.ErrRange, span(-1, 5), span(-1, -1), span(5, 4), span(0, 10), span(10, 10), span(10, 9), span(-1<<63, 1<<63-1), span(1<<63-1, -1<<63))
	leagues := func(a, b, c, e int) api.UnitBook {
		return with(func(x *api.UnitBook) {
			x.Entries[7], x.Entries[8] = during(x.Entries[7], a, b), during(x.Entries[8], c, e)
		})
	}
	for i := range 1000 {
		a, b, c, e := i/100%10, i/10%10, i%10, min(9, i%10+i/10%10%3)
		if a > b {
			continue
		}
		want := api.OK
		if together(leagues(a, b, c, e).Entries[7], leagues(a, b, c, e).Entries[8]) {
			want = api.ErrTwice
		}
		checked(t, want, leagues(a, b, c, e))
	}
	checked(t, api.ErrTwice, renamed(1, "m"), renamed(8, "m"), with(func(b *api.UnitBook) { b.Entries[8] = b.Entries[0] }))
}

// TestP4_01CheckOrder has entries with several faults, of which the first one counts, and each one only before those of the next entry.
func TestP4_01CheckOrder(t *testing.T) {
	faults := []struct {
		code   api.Errno
		change func(x *api.UnitEntry)
	}{
		{api.ErrName, func(x *api.UnitEntry) { x.Name = "m2" }},
		{api.ErrForm, func(x *api.UnitEntry) { x.Factor = q("-2/4") }},
		{api.ErrValue, func(x *api.UnitEntry) { x.Factor = q("-2") }},
		{api.ErrLarge, func(x *api.UnitEntry) { x.Offset = q(over) }},
		{api.ErrOrder, func(x *api.UnitEntry) { x.Dim = d("s m") }},
		{api.ErrKind, func(x *api.UnitEntry) { x.Prefixed = 2 }},
		{api.ErrRange, func(x *api.UnitEntry) { x.Since, x.Until = -1, 9 }},
		{api.ErrTwice, func(x *api.UnitEntry) { x.Name = "m" }},
	}
	for i, first := range faults {
		for j, second := range faults {
			same := func(b *api.UnitBook) {
				// What is changed last is the earlier fault, so that the later one does not undo it.
				faults[max(i, j)].change(&b.Entries[3])
				faults[min(i, j)].change(&b.Entries[3])
			}
			checked(t, faults[min(i, j)].code, with(same))
			checked(t, first.code, with(func(b *api.UnitBook) { first.change(&b.Entries[3]); second.change(&b.Entries[4]) }))
		}
	}
	// An offset that is no number has no say in whether there may be prefixes.
	checked(t, api.ErrForm, changed(0, func(x *api.UnitEntry) { x.Offset = q("0/2") }))
}

func TestP4_01Find(t *testing.T) {
	row(t, []string{find("league"), find("kg"), find("g"), find("cg"), find("ks"), find("k"), find("c"), find("kkm"), find("mk"), find("M"), find("KM"), find("zz"), find("km "), find(""), find("abcdefg"), find("kleague"), find("m^2"), find("1"), find("µ"), find("\xff")}, "-1, 7", "0, 1", "-1, 1", "1, 1", "ErrNone", "ErrNone", "ErrNone", "ErrNone", "ErrNone", "ErrNone", "ErrNone", "ErrNone", "ErrName", "ErrName", "ErrName", "ErrName", "ErrName", "ErrName", "ErrName", "ErrName")
	for version, want := range []string{"-1, 7", "-1, 7", "-1, 7", "-1, 7", "-1, 8", "-1, 8", "-1, 8", "-1, 8", "-1, 8", "-1, 8"} {
		row(t, []string{found(unit.Find(book(), version, "league"))}, want)
	}
	// An entry's own name comes first, then the first prefix, not the longest one; a name behind a prefix has to be prefixed, and there.
	b := api.UnitBook{Prefixes: prefixes("k=2 m=3 kk=5 mm=7"), Entries: []api.UnitEntry{entry("m", "1", "0", "m", 1), during(entry("km", "1", "0", "m", 1), 0, 4), during(entry("mm", "1", "0", "m", 0), 5, 9), during(entry("km", "1", "0", "m", 0), 6, 9)}}
	for version, want := range map[int]string{0: "-1, 1|0, 1|1, 0|3, 0|1, 1", 5: "0, 0|2, 0|-1, 2|3, 0|ErrNone", 6: "-1, 3|2, 0|-1, 2|3, 0|ErrNone"} {
		var got []string
		for _, word := range []string{"km", "kkm", "mm", "mmm", "mkm"} {
			got = append(got, found(unit.Find(b, version, word)))
		}
		row(t, got, strings.Split(want, "|")...)
	}
	s := sample{1, 1}
	for range 60 {
		b := s.book()
		for range 40 {
			version := s.Below(10)
			for part := range strings.FieldsFuncSeq(s.text(b), func(r rune) bool { return strings.ContainsRune(" /^-123456789", r) }) {
				row(t, []string{found(unit.Find(b, version, part))}, found(findByHand(b, version, part)))
			}
		}
	}
}

// P4.2

func TestP4_02Resolve(t *testing.T) {
	counts := map[api.Errno]int{}
	for _, s := range []sample{{11, 1}, {12, 5}, {13, 60}} {
		for range 40 {
			b := s.book()
			for range 40 {
				version, name := s.Below(10), s.text(b)
				u, offset, e := unit.Resolve(b, version, name)
				m, want := resolveByHand(b, version, name)
				if want == api.OK && !m.fits() {
					want = api.ErrLarge
				}
				counts[want]++
				if e != want {
					t.Fatal(name, outcome.Name(e), outcome.Name(want))
				}
				if e == api.OK && (u.Name != name || u.Factor != m.factor || !slices.Equal(u.Dim, m.powers()) || offset != m.offset) {
					t.Fatal(name, preview(one(u, offset, e)), preview(one(api.Unit{Factor: m.factor, Dim: m.powers()}, m.offset, e)))
				}
			}
		}
	}
	for _, e := range []api.Errno{api.OK, api.ErrName, api.ErrNone, api.ErrKind, api.ErrLarge, api.ErrForm} {
		if counts[e] < 20 {
			t.Error(outcome.Name(e), counts[e])
		}
	}
}

func TestP4_02Cases(t *testing.T) {
	row(t, []string{resolve("1"), resolve("m"), resolve("m^1"), resolve("m^-1"), resolve("km^2"), resolve("m m"), resolve("m/m"), resolve("m^2/m^2"), resolve("1/m/s"), resolve("1/m s"), resolve("m/s kg"), resolve("m/s^-1"), resolve("1/m^-9 s"), resolve("m s m s"), resolve("h^9"), resolve("C"), resolve("F"), resolve("K^2"), resolve("league/h")}, "1", "1 m", "1 m", "1 m^-1", "1000000 m^2", "1 m^2", "1", "1", "1 m^-1 s^-1", "1 m^-1 s", "1 kg m s^-1", "1 m s", "1 m^9 s", "1 m^2 s^2", "101559956668416000000000000000000 s^9", "1 temp + 5463/20", "5/9 temp + 45967/180", "1 temp^2", "10/9 m s^-1")
	// At most 20 bytes, then the form, then at most four factors, and then factor by factor: a word, an entry, an offset.
	row(t, []string{resolve("km^2 km^-2 kg^2/kg^9"), resolve("km^2 km^-2 kg^2/kg^9 "), resolve(strings.Repeat("!", 20)), resolve(strings.Repeat("!", 21)), resolve("m m m m"), resolve("m m m m m"), resolve("1/m m m m"), resolve("1/m m m m m"), resolve("m m m m m/"), resolve("zz abcdefg m C zz"), resolve("m zz abcdefg"), resolve("m abcdefg zz"), resolve("m C zz"), resolve("m zz C"), resolve("C abcdefg"), resolve("abcdefghijklmnopqrst"), resolve("abcdefghijklmnopqrstu")}, "1 kg^-7", "ErrLarge", "ErrForm", "ErrLarge", "1 m^4", "ErrMany", "1 m^2", "ErrMany", "ErrForm", "ErrMany", "ErrNone", "ErrName", "ErrKind", "ErrNone", "ErrKind", "ErrName", "ErrLarge")
	row(t, []string{resolve("C^1"), resolve("1/C"), resolve("C m"), resolve("m/C"), resolve("C C"), resolve("C^-1"), resolve("kC")}, "ErrKind", "ErrKind", "ErrKind", "ErrKind", "ErrKind", "ErrKind", "ErrNone")
	for _, s := range []string{"", " ", "/", "^", "2", "0", "11", "1 ", "1/", "1/1", "1//m", "1 m", "1m", "m1", " m", "m ", "/m", "m/", "m//s", "m /s", "m  s", "m/1", "m 1", "m^", "m^0", "m^-0", "m^-", "m^--1", "m^+1", "m^10", "m^1m", "m^m", "m^1^1", "^2", "m*s", "m.s", "m\ts", "m\n", "-m", "m-1", "m^ 2", "µ", "m\xff", "m\x00", "\u0661", "m^\u0662", "[", "{", "`", "@"} {
		row(t, []string{resolve(s), versionsOf(s)}, "ErrForm", "ErrForm")
	}
}

// TestP4_02Forms compares with a grammar for all texts of at most six of some bytes.
func TestP4_02Forms(t *testing.T) {
	b := api.UnitBook{Entries: []api.UnitEntry{entry("a", "2", "0", "m", 0)}}
	alphabet := "a1^/- "
	taken := 0
	var try func(s string)
	try = func(s string) {
		_, _, e := unit.Resolve(b, 0, s)
		_, want := resolveByHand(b, 0, s)
		if e != want {
			t.Errorf("%q: %s, not %s", s, outcome.Name(e), outcome.Name(want))
		}
		if e != api.ErrForm {
			taken++
		}
		if len(s) < 6 {
			for i := range len(alphabet) {
				try(s + alphabet[i:i+1])
			}
		}
	}
	try("")
	if taken < 50 {
		t.Error(taken)
	}
}

// largeBook has numbers with which those on the way to results have more than 400 digits.
func largeBook() api.UnitBook {
	return api.UnitBook{Prefixes: prefixes("k=" + tens), Entries: []api.UnitEntry{
		entry("a", tens, "0", "m^"+nines, 1),
		entry("b", "1/"+tens, "0", "m^-"+nines, 1),
		entry("c", tens, nines, "m", 0),
		entry("d", "1/"+tens, "-"+nines, "m", 0),
		entry("e", "2", "0", "m^"+nines, 0),
		entry("f", "3", "0", "m^"+nines, 0),
		entry("g", "10", "0", "", 0),
	}}
}

func TestP4_02Large(t *testing.T) {
	of := func(s string) string { return one(unit.Resolve(largeBook(), 0, s)) }
	row(t, []string{of("a"), of("a^2"), of("ka/a"), of("a^9/a^9"), of("a^9 b^9"), of("a^-9/b^9"), of("ka"), of("g a/a^1"), of("g a"), of("a/a^2"), of("a/b"), of("e f"), of("e^3/f^2"), of("c"), of("a^2 zz"), of("a a c"), of("a a a abcdefg"), of("a a a a a")}, tens+" m^"+nines, "ErrLarge", tens, "1", "1", "1", "ErrLarge", "10", "ErrLarge", "1/"+tens+" m^-"+nines, "ErrLarge", "ErrLarge", "8/9 m^"+nines, tens+" m + "+nines, "ErrNone", "ErrKind", "ErrName", "ErrMany")
}

// P4.3

func TestP4_03Convert(t *testing.T) {
	same := 0
	for _, s := range []sample{{21, 1}, {22, 6}, {23, 60}} {
		for range 40 {
			b := s.book()
			for range 40 {
				version, x, from, to := s.Below(10), s.number(), s.text(b), s.text(b)
				if s.Below(3) == 0 {
					from, to = b.Entries[s.Below(len(b.Entries))].Name, b.Entries[s.Below(len(b.Entries))].Name
				}
				first, e := resolveByHand(b, version, from)
				second, other := resolveByHand(b, version, to)
				if e == api.OK {
					e = other
				}
				var number, stepped api.Rat
				if e == api.OK {
					number, e = convertByHand(x, first, second, true)
					stepped, _ = convertByHand(x, first, second, false)
				}
				if e == api.OK {
					same++
				}
				got, fault := unit.Convert(b, version, x, from, to)
				due(t, number, e, got, fault)
				got, fault = unit.Step(b, version, x, from, to)
				due(t, stepped, e, got, fault)
			}
		}
	}
	if same < 200 {
		t.Error(same)
	}
}

func TestP4_03Cases(t *testing.T) {
	row(t, []string{convert("1/3", "km", "cm"), convert("-40", "C", "F"), convert("0", "K", "C"), convert("1", "K", "F"), convert("0", "m", "km"), convert("7", "C", "C"), convert("2", "1", "m/m"), convert("3", "g^2/kg^2", "1"), convert("1", "1/h", "1/s"), convert("5", "m^2", "km cm")}, "100000/3", "-40", "-5463/20", "-45787/100", "0", "7", "2", "3/1000000", "1/3600", "1/2")
	row(t, []string{step("1/3", "km", "cm"), step("-40", "C", "F"), step("0", "K", "C"), step("1", "K", "F"), step("1", "F", "C"), step("7", "C", "C"), step("1", "m", "s"), step("1", "C", "m")}, "100000/3", "-72", "0", "9/5", "5/9", "7", "ErrUnits", "ErrUnits")
	for _, f := range []func(x, from, to string) string{convert, step} {
		row(t, []string{f("1", "m", "m^2"), f("1", "m", "1"), f("1", "m", "1/m"), f("1", "m", "zz"), f("1", "zz", "m/"), f("1", "m/", "zz"), f("1", "C^1", "m"), f("1", "m", "K C"), f("1", "m s", "abcdefg"), f("1", "s", strings.Repeat("m", 21)), f("1", "s", "m m m m m"), f("2/4", "", ""), f("x", "s", "m"), f(over, "s", "m")}, "ErrUnits", "ErrUnits", "ErrUnits", "ErrNone", "ErrNone", "ErrForm", "ErrKind", "ErrKind", "ErrName", "ErrLarge", "ErrMany", "ErrForm", "ErrForm", "ErrLarge")
	}
}

func TestP4_03Large(t *testing.T) {
	of := func(x, from, to string) string {
		return amount(unit.Convert(largeBook(), 0, q(x), from, to)) + "|" + amount(unit.Step(largeBook(), 0, q(x), from, to))
	}
	both := func(s string) string { return s + "|" + s }
	row(t, []string{of("7", "a^9", "a^9"), of("7", "a^9", "b^-9"), of("7", "e^9", "f^9"), of("7", "ka^3", "ka^3"), of("1", "ka/a", "g"), of("1", "g ka/a", "g"), of("1", "a^2", "a"), of("1", "e^9", "f^8"), of(tens, "ka/a", "1"), of("1/"+tens, "ka/a", "1")}, both("7"), both("7"), both("3584/19683"), both("7"), both(tens[:399]), both(tens), both("ErrUnits"), both("ErrUnits"), both("ErrLarge"), both("1"))
	// The sum of number and offset is as large as the result must not be; then the unit of the result is larger still.
	row(t, []string{of(nines, "c", "c"), of("1", "c", "d"), of("1/"+tens, "c", "c"), of("0", "d", "c")}, both(nines), "ErrLarge|ErrLarge", both("1/"+tens), "-"+nines+"/5"+tens[2:]+"|0")
}

// P4.4

func TestP4_04List(t *testing.T) {
	many := func(n int) []string {
		var l []string
		for i := range n {
			l = append(l, "m^"+string(rune('1'+i%9))+"/s^"+string(rune('1'+i/9)))
		}
		return l
	}
	row(t, []string{list(), list("m"), list("1", "s", "km/h", "1/h"), list("m", "m^1", "1/m^-1")}, "", "m = 1 m", "1 = 1, s = 1 s, km/h = 5/18 m s^-1, 1/h = 1/3600 s^-1", "m = 1 m, m^1 = 1 m, 1/m^-1 = 1 m")
	if l, e := unit.List(book(), 0, many(40)); len(l) != 40 || e != api.OK || l[39].Name != "m^4/s^5" || outcome.WrittenDim(l[39].Dim) != "m^4 s^-5" {
		t.Error(len(l), e)
	}
	row(t, []string{list(many(41)...), list(make([]string, 41)...), list(append(many(40), "")...), list(append([]string{""}, many(39)...)...)}, "ErrMany", "ErrMany", "ErrMany", "ErrForm")
	// One by one: a text's own errors, whether it is there before, its offset.
	row(t, []string{list("m", "s", "m"), list("m", "m", ""), list("m", "", "m"), list("zz", "m", "m"), list("m", "C", "m"), list("C", "C"), list("m", "m", "C"), list("F"), list("K", "C/s"), list("m", "abcdefg", "m"), list("m", "m m m m m", "m"), list("m", strings.Repeat("m", 21), "m")}, "ErrTwice", "ErrTwice", "ErrForm", "ErrNone", "ErrKind", "ErrKind", "ErrTwice", "ErrKind", "ErrKind", "ErrName", "ErrMany", "ErrLarge")
	// A number that is too large comes last.
	of := func(texts ...string) string { return units(unit.List(largeBook(), 0, texts)) }
	row(t, []string{of("g", "a^2"), of("a^2", "zz"), of("a^2", "a^2"), of("a^2", "c"), of("e f", "g"), of("a^9/a^9")}, "ErrLarge", "ErrNone", "ErrTwice", "ErrKind", "ErrLarge", "a^9/a^9 = 1")
	s := sample{31, 3}
	for range 200 {
		b := s.book()
		version := s.Below(10)
		var texts, want []string
		for range s.Below(6) {
			name := s.text(b)
			if u, offset, e := unit.Resolve(b, version, name); e == api.OK && offset.Num == "0" && !slices.Contains(texts, name) {
				texts, want = append(texts, name), append(want, name+" = "+one(u, offset, e))
			}
		}
		row(t, []string{units(unit.List(b, version, texts))}, strings.Join(want, ", "))
	}
}

// P4.5

func TestP4_05Versions(t *testing.T) {
	counts := map[int]int{}
	for _, s := range []sample{{41, 1}, {42, 4}} {
		for range 60 {
			b := s.book()
			for range 40 {
				name := s.text(b)
				parts, e := factorsByHand(name)
				for _, part := range parts {
					if _, _, fault := findByHand(b, 0, part[2]); fault == api.ErrName {
						e = fault
					}
				}
				var want []int
				for version := range 10 {
					if _, fault := resolveByHand(b, version, name); e == api.OK && fault == api.OK {
						want = append(want, version)
					}
				}
				counts[len(want)]++
				got, fault := unit.Versions(b, name)
				row(t, []string{versions(got, fault)}, versions(want, e))
			}
		}
	}
	if len(counts) < 10 {
		t.Error(counts)
	}
}

func TestP4_05Cases(t *testing.T) {
	all := "0 1 2 3 4 5 6 7 8 9"
	row(t, []string{versionsOf("1"), versionsOf("m"), versionsOf("C"), versionsOf("C^1"), versionsOf("K/C"), versionsOf("league^2/s"), versionsOf("zz"), versionsOf("m zz C")}, all, all, all, "", "", all, "", "")
	row(t, []string{versionsOf(strings.Repeat("m", 21)), versionsOf(strings.Repeat("!", 21)), versionsOf("m m m m m"), versionsOf("m m m m abcdefg"), versionsOf("zz abcdefg"), versionsOf("C abcdefg"), versionsOf("abcdefg^2"), versionsOf("m m m m m/")}, "ErrLarge", "ErrLarge", "ErrMany", "ErrMany", "ErrName", "ErrName", "ErrName", "ErrForm")
	gap := with(func(b *api.UnitBook) {
		b.Entries[7], b.Entries[8] = during(b.Entries[7], 1, 2), during(b.Entries[8], 5, 8)
		b.Entries[3] = during(b.Entries[3], 2, 6)
	})
	row(t, []string{versions(unit.Versions(gap, "league")), versions(unit.Versions(gap, "h")), versions(unit.Versions(gap, "league/h")), versions(unit.Versions(gap, "kh"))}, "1 2 5 6 7 8", "2 3 4 5 6", "2 5 6", "")
	row(t, []string{versions(unit.Versions(largeBook(), "ka^9 a^9")), versions(unit.Versions(largeBook(), "e f"))}, all, all)
}

// P4.6

func TestP4_06Move(t *testing.T) {
	same := 0
	for _, s := range []sample{{51, 1}, {52, 60}} {
		for range 80 {
			b := s.book()
			for range 40 {
				x, name, from, to := s.number(), s.text(b), s.Below(10), s.Below(10)
				if s.Below(2) == 0 {
					name = b.Entries[s.Below(len(b.Entries))].Name
				}
				first, e := resolveByHand(b, from, name)
				second, other := resolveByHand(b, to, name)
				if e == api.OK {
					e = other
				}
				var want api.Rat
				if e == api.OK {
					want, e = convertByHand(x, first, second, true)
				}
				if e == api.OK && first.factor != second.factor {
					same++
				}
				got, fault := unit.Move(b, x, name, from, to)
				due(t, want, e, got, fault)
			}
		}
	}
	if same < 50 {
		t.Error(same)
	}
}

func TestP4_06Cases(t *testing.T) {
	row(t, []string{move("1", "league", 3, 3), move("2", "league", 4, 3), move("1", "league^2", 0, 9), move("-3", "1/league", 0, 9), move("5", "C", 0, 9), move("5", "1", 9, 0)}, "1", "1207/500", "1000000/1456849", "-3621/1000", "5", "5")
	// The scale of a unit may begin elsewhere in another version, and have another dimension.
	b := with(func(b *api.UnitBook) {
		b.Entries[5], b.Entries[6] = during(b.Entries[5], 0, 3), during(entry("C", "1/2", "10", "temp", 0), 4, 6)
		b.Entries = append(b.Entries, during(entry("C", "1", "0", "m", 1), 8, 8))
	})
	of := func(x, s string, from, to int) string { return amount(unit.Move(b, q(x), s, from, to)) }
	row(t, []string{of("0", "C", 0, 4), of("1", "C", 4, 0), of("1", "C", 4, 5), of("1", "C", 0, 8), of("1", "C", 8, 4), of("1", "C", 0, 7), of("1", "C", 7, 0), of("1", "kC", 8, 8), of("1", "kC", 8, 0), of("1", "C^1", 0, 8), of("1", "C^1", 8, 0), of("1", "C^1", 8, 7)}, "5263/10", "-5253/20", "1", "ErrUnits", "ErrUnits", "ErrNone", "ErrNone", "1", "ErrNone", "ErrKind", "ErrKind", "ErrNone")
	row(t, []string{move("2/4", "", -1, 0), move("2/4", "", 0, 10), move("2/4", "", 0, 0), move("1", "", 0, 0), move("1", "abcdefg", 0, 0), move("1", "m m m m m", 0, 0)}, "ErrRange", "ErrRange", "ErrForm", "ErrForm", "ErrName", "ErrMany")
	large := largeBook()
	large.Entries = append(large.Entries, during(entry("h", tens, "0", "m", 0), 0, 4), during(entry("h", "7", "0", "m", 0), 5, 9))
	row(t, []string{amount(unit.Move(large, q("3"), "a^9", 0, 9)), amount(unit.Move(large, q("3"), "h^9", 0, 4)), amount(unit.Move(large, q("3"), "h^9", 0, 9)), amount(unit.Move(large, q("7"), "h", 0, 9)), amount(unit.Move(large, q("70"), "h", 0, 9)), amount(unit.Move(large, q("1"), "zz h^9", 0, 9))}, "3", "3", "ErrLarge", tens, "ErrLarge", "ErrNone")
}

// P4.7

// primes are the factors of the books whose shortest texts are looked for one by one, so that a unit is a list of small numbers: the exponents of them, and of the bases m and s, halved.
var primes = [3]int{2, 3, 5}

type vector [5]int

func (v vector) plus(w vector, times int) vector {
	for i := range v {
		v[i] += w[i] * times
	}
	return v
}

func (v vector) factor() api.Rat {
	x := q("1")
	for i, p := range primes {
		m := measure{q("1"), q("0"), nil}
		m.gain(api.Rat{Num: string(rune('0' + p)), Den: "1"}, nil, v[i])
		x = times(x, m.factor)
	}
	return x
}

func (v vector) powers() []api.Power {
	var out []api.Power
	for i, base := range []string{"m", "s"} {
		if n := v[3+i]; n != 0 {
			num := byhand.Amount(string(rune('0' + max(n, -n))))
			if n < 0 {
				num = byhand.Minus(num)
			}
			out = append(out, api.Power{Base: base, Exp: byhand.Reduced(num, "2")})
		}
	}
	return out
}

// vectorBook returns a book, and the vectors of its words that have no offset.
func (s *sample) vectorBook(dims bool) (api.UnitBook, map[string]vector) {
	var b api.UnitBook
	random := func(dims bool) vector {
		var v vector
		for i := range v {
			if s.Below(3) == 0 && (dims || i < 3) {
				v[i] = s.Below(5) - 2
			}
		}
		return v
	}
	vectors := map[string]vector{}
	for _, name := range []string{"k", "kk", "M"} {
		v := random(false)
		vectors["prefix "+name] = v
		b.Prefixes = append(b.Prefixes, api.UnitPrefix{Name: name, Factor: v.factor()})
	}
	ofEntries := []vector(nil)
	for range 3 + s.Below(4) {
		v := random(dims)
		x := api.UnitEntry{Name: s.pick("a b m km kkm M ab Z abcdef fedcba"), Factor: v.factor(), Offset: q("0"), Dim: v.powers(), Prefixed: s.Below(2), Until: 9}
		if s.Below(6) == 0 {
			x.Offset, x.Prefixed = q("5"), 0
		}
		if s.Below(6) == 0 {
			x.Since = 1
		}
		if !slices.ContainsFunc(b.Entries, func(y api.UnitEntry) bool { return y.Name == x.Name }) {
			b.Entries, ofEntries = append(b.Entries, x), append(ofEntries, v)
		}
	}
	words := map[string]vector{}
	for _, x := range b.Entries {
		for _, front := range []string{"", "k", "kk", "M"} {
			prefix, i, e := findByHand(b, 0, front+x.Name)
			if e != api.OK || b.Entries[i].Offset.Num != "0" {
				continue
			}
			v := ofEntries[i]
			if prefix >= 0 {
				v = v.plus(vectors["prefix "+b.Prefixes[prefix].Name], 1)
			}
			words[front+x.Name] = v
		}
	}
	return b, words
}

// texts goes through all texts of at most two factors with exponents from -3 to 3, and their vectors.
func texts(words map[string]vector, do func(s string, factors int, v vector)) {
	do("1", 0, vector{})
	exps := map[string]int{"": 1, "^1": 1, "^2": 2, "^3": 3, "^-1": -1, "^-2": -2, "^-3": -3}
	factors := map[string]vector{}
	for word, v := range words {
		for text, exp := range exps {
			factors[word+text] = vector{}.plus(v, exp)
		}
	}
	for first, v := range factors {
		for front, sign := range map[string]int{"": 1, "1/": -1} {
			do(front+first, 1, vector{}.plus(v, sign))
			for second, w := range factors {
				do(front+first+" "+second, 2, vector{}.plus(v, sign).plus(w, 1))
				do(front+first+"/"+second, 2, vector{}.plus(v, sign).plus(w, -1))
			}
		}
	}
}

type spelled struct {
	text    string
	factors int
}

func (x spelled) shorter(y spelled) bool {
	switch {
	case len(x.text) != len(y.text):
		return len(x.text) < len(y.text)
	case x.factors != y.factors:
		return x.factors < y.factors
	}
	return x.text < y.text
}

// TestP4_07Short compares with the best one of all texts.
func TestP4_07Short(t *testing.T) {
	for _, s := range []sample{{61, 1}, {62, 1}, {63, 1}} {
		none := 0
		for i := range 12 {
			b, words := s.vectorBook(i%3 > 0)
			best := map[vector]spelled{}
			texts(words, func(text string, factors int, v vector) {
				x := spelled{text, factors}
				if y, is := best[v]; len(text) <= 20 && (!is || x.shorter(y)) {
					best[v] = x
				}
			})
			keys := slices.SortedFunc(maps.Keys(best), func(v, w vector) int { return slices.Compare(v[:], w[:]) })
			for range 150 {
				v := keys[s.Below(len(keys))]
				row(t, []string{text(unit.Short(b, 0, v.factor(), v.powers()))}, best[v].text)
				v[s.Below(5)]++
				if _, is := best[v]; !is && max(v[3], v[4]) < 10 && min(v[3], v[4]) > -10 {
					none++
					row(t, []string{text(unit.Short(b, 0, v.factor(), v.powers()))}, "ErrNone")
				}
			}
		}
		if none < 50 {
			t.Error(none)
		}
	}
}

func TestP4_07Cases(t *testing.T) {
	row(t, []string{short("1", "kg"), short("1/1000", "kg"), short("5/18", "m s^-1"), short("1", "temp"), short("1", "m^-1"), short("1", "m^-2"), short("1", "m^-3"), short("1", "m^4"), short("1", "m^-1 s^-1"), short("1", "m^-2 s^-1"), short("1", "m^-2 s^-3"), short("1", "m s"), short("1", "m^3 s^3"), short("100", ""), short("3600", ""), short("4000", "m"), short("1/100000", "")}, "kg", "g", "km/h", "K", "1/m", "m^-2", "m^-3", "m m^3", "1/m/s", "m^-2/s", "m^-2/s^3", "m s", "m^3 s^3", "g/cg", "h/s", "league", "cg/kg")
	row(t, []string{short("1", "m^7"), short("1", "cd"), short("1", "kg m s"), short("1", "m^1/2"), short("5/9", "temp"), short("1", "m^6"), text(unit.Short(api.UnitBook{}, 0, q("1"), nil)), text(unit.Short(api.UnitBook{}, 0, q("2"), nil)), text(unit.Short(book(), 4, q("4000"), d("m")))}, "ErrNone", "ErrNone", "ErrNone", "ErrNone", "ErrNone", "m^3 m^3", "1", "ErrNone", "ErrNone")
	row(t, []string{short("2/4", "M"), short("0", "M"), short("-1", "M"), short(over, "M"), short("1", "M"), short("1", "s m"), short("1", "m^0"), short("7", "m^2/4")}, "ErrForm", "ErrValue", "ErrValue", "ErrLarge", "ErrName", "ErrOrder", "ErrValue", "ErrForm")
	// Of texts with as many bytes, the one with fewer factors, and then the least one; of words that are spelled in the same way, the one that counts.
	b := api.UnitBook{Prefixes: prefixes("k=2 x=1"), Entries: []api.UnitEntry{entry("a", "2", "0", "m", 1), entry("B", "2", "0", "m", 0), entry("aaa", "4", "0", "m^2", 0), entry("bcd", "4", "0", "m^2", 0), entry("u", "1", "0", "", 0), entry("ka", "3", "0", "m", 0)}}
	of := func(factor, dimension string) string { return text(unit.Short(b, 0, q(factor), d(dimension))) }
	row(t, []string{of("2", "m"), of("4", "m^2"), of("16", "m^4"), of("3", "m"), of("4", "m"), of("1", ""), of("6", "m^2"), of("1/2", "m^-1")}, "B", "B^2", "aaa^2", "ka", "ErrNone", "1", "B ka", "1/B")
	b.Entries[1].Name, b.Entries[2].Name, b.Entries[3].Name = "Bb", "aa", "ab"
	row(t, []string{of("4", "m^2"), of("2", "m")}, "aa", "a")
	// Offsets, and entries of other versions, do not count.
	b.Entries[0].Offset, b.Entries[0].Prefixed, b.Entries[2].Until = q("1"), 0, 8
	row(t, []string{of("2", "m"), text(unit.Short(b, 8, q("4"), d("m^2"))), text(unit.Short(b, 9, q("4"), d("m^2")))}, "Bb", "aa", "ab")
}

// TestP4_07Large: factors and exponents on the way may be of any size.
func TestP4_07Large(t *testing.T) {
	of := func(factor, dimension string) string {
		return text(unit.Short(largeBook(), 0, q(factor), d(dimension)))
	}
	row(t, []string{of("8/9", "m^"+nines), of("9/2", "m^"+nines), of("10", ""), of(tens, ""), of("1/"+tens, ""), of(tens, "m^"+nines), of("1", ""), of("5", "m^"+nines), of("1000000", ""), of("10000000", "")}, "e^3/f^2", "f^2/e", "g", "a kb", "a/ka", "a", "1", "ErrNone", "g^3 g^3", "ErrNone")
}
