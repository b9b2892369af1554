package affine_test

import (
	"strconv"
	"strings"
	"testing"

	"metewand/affine"
	"metewand/api"
	"metewand/internal/outcome"
)

var (
	q       = outcome.Number
	written = outcome.Written
	row     = outcome.Row
	in      = outcome.Span
)

// form returns the form that is written as Mid, and Size@Noise for each term, whether it is valid or not.
func form(s string) api.Affine {
	mid, rest, _ := strings.Cut(s, ", ")
	return api.Affine{Mid: q(mid), Terms: terms(rest)}
}

// terms returns the terms that are written so.
func terms(s string) []api.AffineTerm {
	var list []api.AffineTerm
	for word := range strings.SplitSeq(s, ", ") {
		if size, noise, is := strings.Cut(word, "@"); is {
			n, _ := strconv.Atoi(noise)
			list = append(list, api.AffineTerm{Noise: n, Size: q(size)})
		}
	}
	return list
}

// The forms of the chapter's examples.
var (
	f = form("3, 1@1, 2@2")
	g = form("1, 1@2, -1@3")
	h = form("5, 1@1")
)

func text(f api.Affine) string {
	words := []string{written(f.Mid)}
	for _, term := range f.Terms {
		words = append(words, written(term.Size)+"@"+strconv.Itoa(term.Noise))
	}
	return strings.Join(words, ", ")
}

func one(f api.Affine, e api.Errno) string { return outcome.Of(e, text(f)) }

func check(s string) string { return outcome.Name(affine.Check(form(s))) }

func span(a api.Enclosure, e api.Errno) string { return outcome.Of(e, outcome.WrittenSpan(a)) }

func number(x api.Rat, e api.Errno) string { return outcome.Of(e, written(x)) }

func value(f api.Affine, set string) string { return number(affine.Value(f, terms(set))) }

func verdict(n int, e api.Errno) string {
	return outcome.Of(e, map[int]string{0: "none", api.Yes: "Yes", api.No: "No", api.Maybe: "Maybe"}[n])
}

func list(l []int, e api.Errno) string {
	words := make([]string, len(l))
	for i, n := range l {
		words[i] = strconv.Itoa(n)
	}
	return outcome.Of(e, strings.Join(words, " "))
}

func TestExampleCheck(t *testing.T) {
	row(t, []string{outcome.Name(affine.Check(f)), check("1, 1@2, 1@1"), check("1, 0@1"), check("1, 1@31")}, "OK", "ErrOrder", "ErrZero", "ErrValue")
}

func TestExampleRangeValue(t *testing.T) {
	row(t, []string{span(affine.Range(f)), span(affine.Range(g)), value(f, "1@1, -1/2@2"), value(f, "1@3"), value(f, "2@1")}, "0..6", "-1..3", "3", "3", "ErrValue")
}

func TestExampleOf(t *testing.T) {
	row(t, []string{one(affine.Of(in("1..4"), 7)), one(affine.Of(in("2..2"), 7)), one(affine.Of(in("1..4"), 0))}, "5/2, 3/2@7", "2", "ErrValue")
}

func TestExamplePlusMinusScaleShift(t *testing.T) {
	row(t, []string{one(affine.Plus(f, g)), one(affine.Minus(f, f)), one(affine.Minus(f, g))}, "4, 1@1, 3@2, -1@3", "0", "2, 1@1, 1@2, 1@3")
	row(t, []string{one(affine.Scale(f, q("-2"))), one(affine.Scale(f, q("0"))), one(affine.Shift(f, q("1/2")))}, "-6, -2@1, -4@2", "0", "7/2, 1@1, 2@2")
}

func TestExampleTimes(t *testing.T) {
	row(t, []string{one(affine.Times(f, g, 4)), one(affine.Times(f, g, 2)), one(affine.Times(h, h, 9))}, "3, 1@1, 5@2, -3@3, 6@4", "ErrTwice", "25, 10@1, 1@9")
}

func TestExampleSquare(t *testing.T) {
	row(t, []string{one(affine.Square(h, 9))}, "51/2, 10@1, 1/2@9")
}

func TestExampleInverse(t *testing.T) {
	row(t, []string{one(affine.Inverse(h, 9)), one(affine.Inverse(f, 9))}, "5/24, -1/36@1, 1/72@9", "ErrZero")
}

func TestExampleFix(t *testing.T) {
	row(t, []string{one(affine.Fix(f, 2, q("-1"))), one(affine.Fix(f, 9, q("1"))), one(affine.Fix(f, 1, q("2")))}, "1, 1@1", text(f), "ErrValue")
}

func TestExampleMerge(t *testing.T) {
	row(t, []string{one(affine.Merge(f, 1, 9)), one(affine.Merge(f, 2, 9)), one(affine.Merge(f, 0, 9)), one(affine.Merge(f, -1, 9))}, "3, 2@2, 1@9", text(f), "3, 3@9", "ErrValue")
}

func TestExampleBelowShared(t *testing.T) {
	row(t, []string{verdict(affine.Below(h, f)), verdict(affine.Below(f, h)), verdict(affine.Below(f, f)), list(affine.Shared(f, g))}, "No", "Maybe", "No", "2")
}

// TestExampleOfLayer is the row of this layer in the document's table of examples.
func TestExampleOfLayer(t *testing.T) {
	row(t, []string{span(affine.Range(f))}, "0..6")
}
