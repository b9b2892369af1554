package unit_test

import (
	"strconv"
	"strings"
	"testing"

	"metewand/api"
	"metewand/internal/outcome"
	"metewand/unit"
)

var (
	q   = outcome.Number
	d   = outcome.Dim
	row = outcome.Row
)

// entry is in all versions.
func entry(name, factor, offset, dimension string, prefixed int) api.UnitEntry {
	return api.UnitEntry{Name: name, Factor: q(factor), Offset: q(offset), Dim: d(dimension), Prefixed: prefixed, Until: api.UnitVersion}
}

// during returns an entry that is in some versions.
func during(x api.UnitEntry, since, until int) api.UnitEntry {
	x.Since, x.Until = since, until
	return x
}

// prefixes returns those that are written as words, each with its factor behind an equals sign.
func prefixes(s string) []api.UnitPrefix {
	var l []api.UnitPrefix
	for word := range strings.FieldsSeq(s) {
		name, factor, _ := strings.Cut(word, "=")
		l = append(l, api.UnitPrefix{Name: name, Factor: q(factor)})
	}
	return l
}

// book is the book B of the chapter's examples.
func book() api.UnitBook {
	return api.UnitBook{Prefixes: prefixes("k=1000 c=1/100"), Entries: []api.UnitEntry{
		entry("m", "1", "0", "m", 1),
		entry("g", "1/1000", "0", "kg", 1),
		entry("s", "1", "0", "s", 0),
		entry("h", "3600", "0", "s", 0),
		entry("K", "1", "0", "temp", 0),
		entry("C", "1", "5463/20", "temp", 0),
		entry("F", "5/9", "45967/180", "temp", 0),
		during(entry("league", "4000", "0", "m", 0), 0, 3),
		during(entry("league", "4828", "0", "m", 0), 4, 9),
	}}
}

// found writes what Find returns.
func found(prefix, entry int, e api.Errno) string {
	return outcome.Of(e, strconv.Itoa(prefix), strconv.Itoa(entry))
}

// one writes a unit without its name, and its offset unless this is 0.
func one(u api.Unit, offset api.Rat, e api.Errno) string {
	s := strings.TrimSpace(outcome.Written(u.Factor) + " " + outcome.WrittenDim(u.Dim))
	if offset.Num != "0" {
		s += " + " + outcome.Written(offset)
	}
	return outcome.Of(e, s)
}

func units(l []api.Unit, e api.Errno) string {
	words := make([]string, len(l))
	for i, u := range l {
		words[i] = u.Name + " = " + one(u, q("0"), api.OK)
	}
	return outcome.Of(e, words...)
}

func amount(x api.Rat, e api.Errno) string { return outcome.Of(e, outcome.Written(x)) }

func text(s string, e api.Errno) string { return outcome.Of(e, s) }

func versions(l []int, e api.Errno) string {
	words := make([]string, len(l))
	for i, n := range l {
		words[i] = strconv.Itoa(n)
	}
	return outcome.Of(e, strings.Join(words, " "))
}

// Each of the functions below calls one of the package with the book of the examples, in its first version.

func find(word string) string { return found(unit.Find(book(), 0, word)) }

func resolve(s string) string { return one(unit.Resolve(book(), 0, s)) }

func convert(x, from, to string) string { return amount(unit.Convert(book(), 0, q(x), from, to)) }

func step(x, from, to string) string { return amount(unit.Step(book(), 0, q(x), from, to)) }

func list(texts ...string) string { return units(unit.List(book(), 0, texts)) }

func versionsOf(s string) string { return versions(unit.Versions(book(), s)) }

func move(x, s string, from, to int) string { return amount(unit.Move(book(), q(x), s, from, to)) }

func short(factor, dimension string) string {
	return text(unit.Short(book(), 0, q(factor), d(dimension)))
}

func TestExampleFind(t *testing.T) {
	row(t, []string{find("km"), find("cm"), find("m"), find("kC"), found(unit.Find(book(), 4, "league")), find("m2")}, "0, 0", "1, 0", "-1, 0", "ErrNone", "-1, 8", "ErrName")
}

func TestExampleResolve(t *testing.T) {
	row(t, []string{resolve("kg m/s^2"), resolve("1/h"), resolve("C")}, "1 kg m s^-2", "1/3600 s^-1", "1 temp + 5463/20")
	row(t, []string{resolve("C/s"), resolve("m  s"), resolve("m^0"), resolve("ft"), resolve("1 m")}, "ErrKind", "ErrForm", "ErrForm", "ErrNone", "ErrForm")
}

func TestExampleConvertStep(t *testing.T) {
	row(t, []string{convert("36", "km/h", "m/s"), convert("100", "C", "F"), convert("1", "m", "s")}, "10", "212", "ErrUnits")
	row(t, []string{step("5", "C", "F"), convert("0", "F", "K")}, "9", "45967/180")
}

func TestExampleVersionsMove(t *testing.T) {
	row(t, []string{versionsOf("league"), versionsOf("kC"), versionsOf("m^"), move("1", "league", 0, 9)}, "0 1 2 3 4 5 6 7 8 9", "", "ErrForm", "1000/1207")
}

func TestExampleShort(t *testing.T) {
	row(t, []string{short("1", "m s^-2"), short("1000", "m"), short("1/3600", "s^-1"), short("1", ""), short("1", "m^2"), short("7", "m")}, "m/s^2", "km", "1/h", "1", "m^2", "ErrNone")
}

func TestExampleList(t *testing.T) {
	row(t, []string{list("m", "km/h"), list("m", "m"), list("C")}, "m = 1 m, km/h = 5/18 m s^-1", "ErrTwice", "ErrKind")
}

// TestExampleOfLayer is the row of this layer in the document's table of examples.
func TestExampleOfLayer(t *testing.T) {
	u, offset, e := unit.Resolve(book(), 0, "kg m/s^2")
	row(t, []string{u.Name, one(u, offset, e)}, "kg m/s^2", "1 kg m s^-2")
}
