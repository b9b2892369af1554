package unit

import (
	"iter"
	"slices"
	"strings"

	"metewand/api"
	"metewand/internal/failure"
)

// factor is a factor of a text: letters, and an exponent, whose sign is the opposite one behind a slash.
type factor struct {
	word string
	exp  int
}

func (f factor) isNoWord() bool { return !isWord(f.word) }

// stage says what was read last of a text.
type stage int

const (
	nothing   stage = iota
	unity           // the 1 in front
	separator       // a blank or a slash
	letter
	caret
	minus
	digit
	nonsense // what is in no text
)

// after returns the stage once a byte more is read.
func (s stage) after(b byte) stage {
	switch s {
	case nothing:
		if b == '1' {
			return unity
		}
		fallthrough
	case separator:
		if isLetter(b) {
			return letter
		}
	case letter:
		switch {
		case isLetter(b):
			return letter
		case b == '^':
			return caret
		}
		fallthrough
	case digit:
		if b == ' ' || b == '/' {
			return separator
		}
	case unity:
		if b == '/' {
			return separator
		}
	case caret:
		if b == '-' {
			return minus
		}
		fallthrough
	case minus:
		if '1' <= b && b <= '9' {
			return digit
		}
	}
	return nonsense
}

func isLetter(b byte) bool { return strings.IndexByte(letters, b) >= 0 }

// mayEnd tells whether a text may end at this stage.
func (s stage) mayEnd() bool { return s == unity || s == letter || s == digit }

// factorsIn goes through the factors of a text, and throws ErrForm where it has not the form of one.
func factorsIn(text string) iter.Seq[factor] {
	return func(yield func(factor) bool) {
		read, next := nothing, factor{exp: 1}
		for i := range len(text) {
			read = read.after(text[i])
			switch read {
			case letter:
				next.word += text[i : i+1]
			case minus:
				next.exp = -next.exp
			case digit:
				next.exp *= int(text[i] - '0')
			case separator:
				if next.word != "" && !yield(next) {
					return
				}
				next = begun(text[i])
			case nonsense:
				failure.Throw(api.ErrForm)
			}
		}
		if !read.mayEnd() {
			failure.Throw(api.ErrForm)
		}
		if next.word != "" {
			yield(next)
		}
	}
}

// begun returns the factor that begins behind a blank or a slash.
func begun(mark byte) factor {
	if mark == '/' {
		return factor{exp: -1}
	}
	return factor{exp: 1}
}

// parsed returns the factors of a text, whatever they stand for.
func parsed(text string) []factor {
	if len(text) > api.ReadUnit {
		failure.Throw(api.ErrLarge)
	}
	factors := slices.Collect(factorsIn(text))
	if len(factors) > api.UnitParts {
		failure.Throw(api.ErrMany)
	}
	return factors
}
