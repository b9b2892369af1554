package dim

import (
	"iter"
	"strings"

	"metewand/api"
	"metewand/internal/exact"
	"metewand/internal/failure"
	"metewand/ratio"
)

// none is the text of no dimension.
const none = "1"

func (d powers) text() string {
	if len(d) == 0 {
		return none
	}
	factors := make([]string, len(d))
	for i, p := range d {
		factors[i] = powerText(p)
	}
	text := strings.Join(factors, "*")
	if len(text) > api.DimText {
		failure.Throw(api.ErrLarge)
	}
	return text
}

// powerText has no exponent in it if this is 1.
func powerText(p api.Power) string {
	exp, e := ratio.Print(p.Exp)
	failure.Check(e)
	text := ""
	switch exp {
	default:
		text = "^" + exp
		fallthrough
	case "1":
		text = p.Base + text
	}
	return text
}

func parsed(s string) powers {
	if len(s) > api.DimText {
		failure.Throw(api.ErrLarge)
	}
	if s == none {
		return nil
	}
	work := exponents[string]{}
	for f := range factorsIn(s) {
		work.multiply(f.atWork(), f.exp)
	}
	return sorted(work)
}

// factorsIn goes through the factors of a text.
func factorsIn(s string) iter.Seq[factor] {
	return func(yield func(factor) bool) {
		text, rest, more := strings.Cut(s, "*")
		for yield(factorIn(text)) && more {
			text, rest, more = strings.Cut(rest, "*")
		}
	}
}

// factorIn throws ErrForm unless the text is a base, with or without an exponent.
func factorIn(text string) factor {
	behind := strings.TrimLeft(text, letters)
	base := text[:len(text)-len(behind)]
	exp, has := strings.CutPrefix(behind, "^")
	switch {
	case !isBase(base), behind != "" && !has:
		failure.Throw(api.ErrForm)
	case !has:
		return factor{single(base), exact.One()}
	}
	return factor{single(base), exponentIn(exp)}
}

// exponentIn throws ErrForm unless the text is what ratio.Print prints.
func exponentIn(text string) exact.Rat {
	exp, e := ratio.Parse(text)
	if e != api.OK || strings.Contains(text, ".") {
		failure.Throw(api.ErrForm)
	}
	return exact.Of(exp)
}
