package outcome

import (
	"slices"
	"strings"

	"metewand/api"
)

// Number returns the number that is written as s, with or without a slash, whether it is valid or not.
func Number(s string) api.Rat {
	num, den, slash := strings.Cut(s, "/")
	if !slash {
		den = "1"
	}
	return api.Rat{Num: num, Den: den}
}

// Written writes a number, and nothing for the zero value.
func Written(a api.Rat) string {
	if a.Den == "1" || a == (api.Rat{}) {
		return a.Num
	}
	return a.Num + "/" + a.Den
}

// Span returns the enclosure that is written with two points between its ends, whether it is valid or not.
func Span(s string) api.Enclosure {
	lo, hi, _ := strings.Cut(s, "..")
	return api.Enclosure{Lo: Number(lo), Hi: Number(hi)}
}

// WrittenSpan writes an enclosure so.
func WrittenSpan(a api.Enclosure) string { return Written(a.Lo) + ".." + Written(a.Hi) }

// Dim returns the dimension that is written as words, each a base with or without ^ and an exponent, whether it is valid or not.
func Dim(s string) []api.Power {
	var d []api.Power
	for word := range strings.FieldsSeq(s) {
		base, exp, has := strings.Cut(word, "^")
		if !has {
			exp = "1"
		}
		d = append(d, api.Power{Base: base, Exp: Number(exp)})
	}
	return d
}

// WrittenDim writes a dimension as such words.
func WrittenDim(d []api.Power) string {
	words := make([]string, len(d))
	for i, p := range d {
		words[i] = p.Base
		if exp := Written(p.Exp); exp != "1" {
			words[i] += "^" + exp
		}
	}
	return strings.Join(words, " ")
}

// tester is a test that reports what is wrong.
type tester interface {
	Helper()
	Errorf(format string, args ...any)
}

// Row compares the results of a row of a chapter's table.
func Row(t tester, got []string, want ...string) {
	t.Helper()
	if !slices.Equal(got, want) {
		t.Errorf("got %q, want %q", got, want)
	}
}
