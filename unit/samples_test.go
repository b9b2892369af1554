package unit_test

import (
	"maps"
	"regexp"
	"slices"
	"strconv"
	"strings"
	"testing"

	"metewand/api"
	"metewand/internal/byhand"
	"metewand/internal/outcome"
	"metewand/unit"
)

var nines, tens, over = byhand.Limits()

// preview shortens the numbers of a message.
func preview(s string) string {
	return regexp.MustCompile(`[0-9]{40,}`).ReplaceAllStringFunc(s, byhand.Preview)
}

// sample is how random books look.
type sample struct {
	byhand.Chance
	digits int // of their numbers, at most
}

func (s *sample) pick(words string) string {
	l := strings.Fields(words)
	return l[s.Below(len(l))]
}

func (s *sample) positive() api.Rat {
	if s.Below(2) == 0 {
		return q(s.pick("1 1 2 10 60 1000 1/10 1/2 1/100 5/9"))
	}
	part := func() string { return byhand.Add(byhand.Amount(s.Number(1+s.Below(s.digits))), "1") }
	if x := byhand.Reduced(part(), part()); byhand.Fits(x) {
		return x
	}
	return q("3")
}

func (s *sample) number() api.Rat {
	x := s.positive()
	switch s.Below(4) {
	case 0:
		return q("0")
	case 1:
		return byhand.Negated(x)
	}
	return x
}

func (s *sample) dimension() []api.Power {
	return d([]string{"m", "m", "m", "s", "s", "kg", "temp", "m s", "m s^-1", "m^1/2", "m^-2/3", "kg m^2 s^-2", ""}[s.Below(13)])
}

// book returns a book in which one word is often spelled in several ways, and which has several dimensions more than once.
func (s *sample) book() api.UnitBook {
	var b api.UnitBook
	for _, name := range []string{"k", "m", "kk", "c", "mm"} {
		if s.Below(3) > 0 {
			b.Prefixes = append(b.Prefixes, api.UnitPrefix{Name: name, Factor: s.positive()})
		}
	}
	for range 6 + s.Below(8) {
		x := api.UnitEntry{Name: s.pick("m s g km mm h K C kkm cm abc abcdef"), Factor: s.positive(), Offset: q("0"), Dim: s.dimension(), Prefixed: s.Below(2), Until: 9}
		if s.Below(5) == 0 {
			x.Offset, x.Prefixed = s.number(), 0
		}
		if s.Below(2) == 0 {
			x.Since = s.Below(10)
			x.Until = x.Since + s.Below(10-x.Since)
		}
		b.Entries = append(b.Entries, x)
		if x.Until < 9 {
			// The same unit may have been another one later.
			x.Factor, x.Since, x.Until = s.positive(), x.Until+1, 9
			b.Entries = append(b.Entries, x)
		}
	}
	var entries []api.UnitEntry
	for _, x := range b.Entries {
		if !slices.ContainsFunc(entries, func(y api.UnitEntry) bool { return together(x, y) }) {
			entries = append(entries, x)
		}
	}
	b.Entries = entries[:min(len(entries), 20)]
	return b
}

// text returns a text, of words of a book for the most part.
func (s *sample) text(b api.UnitBook) string {
	words := []string{"zz", "abcdefg"}
	for _, x := range b.Entries {
		words = append(words, x.Name, x.Name, x.Name)
		for _, p := range b.Prefixes {
			words = append(words, p.Name+x.Name)
		}
	}
	out := []string{"1/", "", "", ""}[s.Below(4)]
	for i := range 1 + s.Below(s.Below(5)+1) {
		if i > 0 {
			out += []string{" ", "/"}[s.Below(2)]
		}
		out += words[s.Below(len(words))]
		if s.Below(3) == 0 {
			out += "^" + []string{"", "-"}[s.Below(2)] + strconv.Itoa(1+s.Below(s.Below(9)+1))
		}
	}
	if s.Below(20) == 0 {
		return s.pick("1 m^ m//s")
	}
	return out
}

func isThere(x api.UnitEntry, version int) bool { return x.Since <= version && version <= x.Until }

// together tells whether two entries would be there by the same name.
func together(x, y api.UnitEntry) bool {
	for version := range 10 {
		if x.Name == y.Name && isThere(x, version) && isThere(y, version) {
			return true
		}
	}
	return false
}

// findByHand reads the chapter's definition of what a word stands for, word by word.
func findByHand(b api.UnitBook, version int, word string) (prefix, entry int, e api.Errno) {
	if !regexp.MustCompile(`^[a-zA-Z]{1,6}$`).MatchString(word) {
		return 0, 0, api.ErrName
	}
	for i, x := range b.Entries {
		if isThere(x, version) && x.Name == word {
			return -1, i, api.OK
		}
	}
	for i, p := range b.Prefixes {
		for j, x := range b.Entries {
			if isThere(x, version) && x.Prefixed == 1 && p.Name+x.Name == word {
				return i, j, api.OK
			}
		}
	}
	return 0, 0, api.ErrNone
}

// measure is a unit, the numbers of which may be of any size.
type measure struct {
	factor, offset api.Rat
	dim            map[string]api.Rat // without exponents that are 0
}

var (
	times = byhand.Product
	plus  = byhand.Sum
)

func inverse(a api.Rat) api.Rat { return api.Rat{Num: a.Den, Den: a.Num} }

// gain multiplies a unit by a factor and a dimension to a power.
func (m *measure) gain(factor api.Rat, dimension []api.Power, exp int) {
	if exp < 0 {
		factor = inverse(factor)
	}
	for range max(exp, -exp) {
		m.factor = times(m.factor, factor)
	}
	for _, p := range dimension {
		sum, is := m.dim[p.Base]
		if !is {
			sum = q("0")
		}
		sum = plus(sum, times(p.Exp, q(strconv.Itoa(exp))))
		m.dim[p.Base] = sum
		if sum.Num == "0" {
			delete(m.dim, p.Base)
		}
	}
}

func (m *measure) powers() []api.Power {
	var out []api.Power
	for _, base := range slices.Sorted(maps.Keys(m.dim)) {
		out = append(out, api.Power{Base: base, Exp: m.dim[base]})
	}
	return out
}

func (m *measure) fits() bool {
	return byhand.Fits(m.factor) && !slices.ContainsFunc(m.powers(), func(p api.Power) bool { return !byhand.Fits(p.Exp) })
}

const factorForm = `[a-zA-Z]+(?:\^-?[1-9])?`

var (
	textForm    = regexp.MustCompile(`^(?:1|(?:1/)?` + factorForm + `(?:[ /]` + factorForm + `)*)$`)
	factorParts = regexp.MustCompile(`([ /]?)([a-zA-Z]+)(?:\^(-?[1-9]))?`)
)

// factorsByHand returns, of each factor of a text, its separator, its word and its exponent; or the error of the text.
func factorsByHand(s string) ([][]string, api.Errno) {
	parts := factorParts.FindAllStringSubmatch(s, -1)
	switch {
	case len(s) > 20:
		return nil, api.ErrLarge
	case !textForm.MatchString(s):
		return nil, api.ErrForm
	case len(parts) > 4:
		return nil, api.ErrMany
	}
	return parts, api.OK
}

// resolveByHand reads the chapter's definition of the unit of a text. It returns no ErrLarge for large numbers.
func resolveByHand(b api.UnitBook, version int, s string) (*measure, api.Errno) {
	parts, e := factorsByHand(s)
	if e != api.OK {
		return nil, e
	}
	m := &measure{q("1"), q("0"), map[string]api.Rat{}}
	for _, part := range parts {
		prefix, i, e := findByHand(b, version, part[2])
		if e != api.OK {
			return nil, e
		}
		x := b.Entries[i]
		if x.Offset.Num != "0" && part[2] != s {
			return nil, api.ErrKind
		}
		exp := 1
		if part[3] != "" {
			exp, _ = strconv.Atoi(part[3])
		}
		if part[1] == "/" {
			exp = -exp
		}
		m.offset = x.Offset
		m.gain(x.Factor, x.Dim, exp)
		if prefix >= 0 {
			m.gain(b.Prefixes[prefix].Factor, nil, exp)
		}
	}
	return m, api.OK
}

// convertByHand returns the number of the second unit, of any size; whole tells whether offsets count.
func convertByHand(x api.Rat, from, to *measure, whole bool) (api.Rat, api.Errno) {
	if !slices.Equal(from.powers(), to.powers()) {
		return api.Rat{}, api.ErrUnits
	}
	x = times(x, from.factor)
	if whole {
		x = byhand.Difference(plus(x, from.offset), to.offset)
	}
	return times(x, inverse(to.factor)), api.OK
}

// due reports a number that is not the one of any size that it should be, or not ErrLarge where this is too large.
func due(t *testing.T, want api.Rat, fault api.Errno, got api.Rat, e api.Errno) {
	t.Helper()
	if fault == api.OK && !byhand.Fits(want) {
		want, fault = api.Rat{}, api.ErrLarge
	}
	if got != want || e != fault {
		t.Fatalf("%s, not %s", preview(amount(got, e)), preview(amount(want, fault)))
	}
}

// outcomes calls all functions with some arguments, and returns what they return.
func outcomes(b api.UnitBook, version, other int, x api.Rat, s, to string, dimension []api.Power) []string {
	return []string{
		outcome.Name(unit.Check(b)), found(unit.Find(b, version, s)), one(unit.Resolve(b, version, s)),
		amount(unit.Convert(b, version, x, s, to)), amount(unit.Step(b, version, x, s, to)), units(unit.List(b, version, []string{s, to})),
		versions(unit.Versions(b, s)), amount(unit.Move(b, x, s, version, other)), text(unit.Short(b, version, x, dimension)),
	}
}
