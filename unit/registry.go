package unit

import (
	"iter"
	"slices"
	"strings"

	"metewand/api"
	"metewand/internal/exact"
	"metewand/internal/failure"
)

// registry is a valid book in one version.
type registry struct {
	api.UnitBook
	there map[string]int // the entries that are there, by their names
}

// at throws ErrRange unless there is such a version.
func at(b api.UnitBook, version int) registry {
	if version < 0 || version > api.UnitVersion {
		failure.Throw(api.ErrRange)
	}
	r := registry{b, map[string]int{}}
	for i, x := range r.Entries {
		if x.Since <= version && version <= x.Until {
			r.there[x.Name] = i
		}
	}
	return r
}

// unprefixed is the prefix of a word that has none.
const unprefixed = -1

// sense is what a word stands for.
type sense struct{ prefix, entry int }

// find returns what a word stands for; ErrName unless it is a word, ErrNone unless it stands for an entry.
func (r registry) find(word string) (sense, api.Errno) {
	if !isWord(word) {
		return sense{}, api.ErrName
	}
	if entry, is := r.there[word]; is {
		return sense{unprefixed, entry}, api.OK
	}
	for i, p := range r.Prefixes {
		name, begins := strings.CutPrefix(word, p.Name)
		entry, is := r.there[name]
		if begins && is && r.Entries[entry].Prefixed == 1 {
			return sense{i, entry}, api.OK
		}
	}
	return sense{}, api.ErrNone
}

// meaning returns what a word of a text stands for; after the errors of find, ErrKind if it has an offset, and is not all of the text.
func (r registry) meaning(word, text string) (sense, api.Errno) {
	s, e := r.find(word)
	if e == api.OK && hasOffset(r.Entries[s.entry]) && word != text {
		return sense{}, api.ErrKind
	}
	return s, e
}

// size returns the factor of a word. (It is called so since a text has factors, too.)
func (r registry) size(s sense) exact.Rat {
	size := exact.Of(r.Entries[s.entry].Factor)
	if s.prefix == unprefixed {
		return size
	}
	return size.Times(exact.Of(r.Prefixes[s.prefix].Factor))
}

// words goes through the words that stand for an entry, with their factors.
func (r registry) words(entry int) iter.Seq2[string, exact.Rat] {
	return func(yield func(string, exact.Rat) bool) {
		for i := unprefixed; i < len(r.Prefixes); i++ {
			word := r.Entries[entry].Name
			if i != unprefixed {
				word = r.Prefixes[i].Name + word
			}
			// The same letters may stand for another entry.
			s, e := r.find(word)
			if e == api.OK && s == (sense{i, entry}) && !yield(word, r.size(s)) {
				return
			}
		}
	}
}

// amount returns the unit of a text.
func (r registry) amount(text string) amount {
	a := amount{name: text, factor: exact.One()}
	for _, f := range parsed(text) {
		s, e := r.meaning(f.word, text)
		failure.Check(e)
		x := r.Entries[s.entry]
		a.factor = a.factor.Times(raised(r.size(s), f.exp))
		a.offset = exact.Of(x.Offset) // not 0 only if there is no other factor
		a.parts = append(a.parts, part{x.Dim, f.exp, 1})
	}
	return a
}

// amounts returns the units of texts for List.
func (r registry) amounts(texts []string) []amount {
	if len(texts) > api.EvalUnits {
		failure.Throw(api.ErrMany)
	}
	amounts := make([]amount, len(texts))
	for i, text := range texts {
		amounts[i] = r.amount(text)
		switch {
		case slices.Contains(texts[:i], text):
			failure.Throw(api.ErrTwice)
		case !amounts[i].offset.IsZero():
			failure.Throw(api.ErrKind)
		}
	}
	return amounts
}

// versions returns the versions of a valid book in which a text is a unit text; it throws the errors that the text has in all of them.
func versions(b api.UnitBook, text string) []int {
	factors := parsed(text)
	if slices.ContainsFunc(factors, factor.isNoWord) {
		failure.Throw(api.ErrName)
	}
	var list []int
versions:
	for version := range api.UnitVersion + 1 {
		r := at(b, version)
		for _, f := range factors {
			if _, e := r.meaning(f.word, text); e != api.OK {
				continue versions
			}
		}
		list = append(list, version)
	}
	return list
}
