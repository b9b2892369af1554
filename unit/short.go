package unit

import (
	"maps"
	"slices"
	"sync"

	"metewand/api"
	"metewand/internal/exact"
	"metewand/internal/failure"
)

// rest is what the unit of a text needs behind its first factor: a dimension to the power of an exponent, and a factor as a text. The dimension is known by the first entry that has it; without one, entry and exp are 0.
type rest struct {
	entry, exp int
	size       string
}

// search looks for the shortest text of a unit.
type search struct {
	registry
	size    exact.Rat
	dim     []api.Power
	entries []int // those that are there, without an offset
	behind  map[rest]best[candidate]
}

// searchOf finds what can be behind the first factor of a text: nothing, or a second one. Of several that have the same unit, only the best one is kept, since in a text of this unit it is best behind any first factor.
func searchOf(r registry, size exact.Rat, dim []api.Power) search {
	s := search{registry: r, size: size, dim: dim, behind: map[rest]best[candidate]{}}
	s.keep(rest{size: exact.One().Text()}, candidate{})
	for _, entry := range slices.Sorted(maps.Values(r.there)) {
		if hasOffset(r.Entries[entry]) {
			continue
		}
		s.entries = append(s.entries, entry)
		like := s.entryOf(r.Entries[entry].Dim)
		for word, size := range r.words(entry) {
			for exp := range exponents() {
				s.keep(rest{like, exp, raised(size, exp).Text()}, candidate{factor{word, exp}.behind(), 1})
			}
		}
	}
	return s
}

func (s search) keep(r rest, x candidate) {
	kept := s.behind[r]
	kept.offer(x)
	s.behind[r] = kept
}

// entryOf returns the first entry of a dimension, -1 if there is none.
func (s search) entryOf(d []api.Power) int {
	return slices.IndexFunc(s.Entries, func(x api.UnitEntry) bool { return slices.Equal(x.Dim, d) })
}

// rests returns what a unit may need behind a power of an entry, but for its size.
func (s search) rests(entry, exp int) []rest {
	var list []rest
	first := s.Entries[entry].Dim
	if isNone(part{s.dim, 1, 1}, part{first, -exp, 1}) {
		list = append(list, rest{})
	}
	for next := range exponents() {
		// Where an exponent of the second dimension is too large, no entry has it.
		d, e := product(part{s.dim, 1, next}, part{first, -exp, next})
		if like := s.entryOf(d); e == api.OK && like >= 0 {
			list = append(list, rest{entry: like, exp: next})
		}
	}
	return list
}

// from returns the best text whose first factor is a word for an entry.
func (s search) from(entry int) best[candidate] {
	var text best[candidate]
	for exp := range exponents() {
		rests := s.rests(entry, exp)
		if len(rests) == 0 {
			continue
		}
		for word, size := range s.words(entry) {
			front, needed := factor{word, exp}.front(), s.size.Over(raised(size, exp)).Text()
			for _, r := range rests {
				r.size = needed
				if more, is := s.behind[r]; is {
					text.offer(candidate{front + more.kept.text, more.kept.factors + 1})
				}
			}
		}
	}
	return text
}

// finding is the best text from an entry, or the error that ended the search for it.
type finding struct {
	best[candidate]
	api.Errno
}

// shortest throws ErrNone if there is no text.
func (s search) shortest() string {
	if one := exact.One().Text(); len(s.dim) == 0 && s.size.Text() == one {
		return one // which is also the text without factors
	}
	text := s.sideBySide()
	if !text.some {
		failure.Throw(api.ErrNone)
	}
	return text.kept.text
}

// sideBySide returns the best text of those from all entries.
func (s search) sideBySide() best[candidate] {
	found := make(chan finding, len(s.entries))
	var workers sync.WaitGroup
	for _, entry := range s.entries {
		workers.Add(1)
		go func() {
			defer workers.Done()
			text, e := failure.Guarded(func() best[candidate] { return s.from(entry) })
			found <- finding{text, e}
		}()
	}
	workers.Wait()
	close(found)
	var text best[candidate]
	for f := range found {
		failure.Check(f.Errno)
		if f.some {
			text.offer(f.kept)
		}
	}
	return text
}
