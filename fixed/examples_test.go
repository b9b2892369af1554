package fixed_test

import (
	"strconv"
	"strings"
	"testing"

	"metewand/api"
	"metewand/fixed"
	"metewand/internal/outcome"
)

var (
	q       = outcome.Number
	written = outcome.Written
	row     = outcome.Row
)

// The forms of the chapter's examples.
var (
	f = api.FixedForm{Bits: 4, Frac: 1, Round: api.RoundEven, Over: api.OverFail, Signed: true}
	c = with(f, api.RoundEven, api.OverClip)
	w = with(f, api.RoundEven, api.OverWrap)
	g = api.FixedForm{Bits: 3, Frac: 0, Round: api.RoundHalf, Over: api.OverClip}
)

// with returns a form with another law and another way.
func with(f api.FixedForm, round, over int) api.FixedForm {
	f.Round, f.Over = round, over
	return f
}

func by(round int) api.FixedForm { return with(f, round, api.OverFail) }

func one(n int, e api.Errno) string { return outcome.Of(e, strconv.Itoa(n)) }

func rat(a api.Rat, e api.Errno) string { return outcome.Of(e, written(a)) }

func of(f api.FixedForm, a string) string { return one(fixed.Of(f, q(a))) }

func span(f api.FixedForm) string {
	lo, hi, e := fixed.Range(f)
	return outcome.Of(e, written(lo), written(hi))
}

func shape(f api.FixedForm, e api.Errno) string { return outcome.Of(e, describe(f)) }

func text(s string, e api.Errno) string { return outcome.Of(e, s) }

// list returns the words that are written with spaces between them.
func list(s string) []int {
	var l []int
	for field := range strings.FieldsSeq(s) {
		n, _ := strconv.Atoi(field)
		l = append(l, n)
	}
	return l
}

func dot(f, g api.FixedForm, v, w string) string { return one(fixed.Dot(f, g, list(v), list(w))) }

func fit(lo, hi string, frac, round int) string { return shape(fixed.Fit(q(lo), q(hi), frac, round)) }

func TestExampleRangeStepNum(t *testing.T) {
	row(t, []string{span(f), rat(fixed.Step(f)), rat(fixed.Num(f, -3)), rat(fixed.Num(f, 8))}, "-4, 7/2", "1/2", "-3/2", "ErrRange")
}

func TestExampleOf(t *testing.T) {
	row(t, []string{of(f, "5/4"), of(f, "7/4"), of(f, "-5/4"), of(f, "4"), of(c, "4"), of(w, "4"), rat(fixed.Error(f, q("5/4")))}, "2", "4", "-2", "ErrRange", "7", "-8", "-1/4")
}

func TestExampleLaws(t *testing.T) {
	laws := []int{api.RoundDown, api.RoundUp, api.RoundZero, api.RoundAway, api.RoundHalf}
	var got, mirrored []string
	for _, law := range laws {
		got = append(got, of(by(law), "5/4"))
		mirrored = append(mirrored, of(by(law), "-5/4"))
	}
	row(t, got, "2", "3", "2", "3", "3")
	row(t, mirrored, "-3", "-2", "-2", "-3", "-2")
}

func TestExampleApply(t *testing.T) {
	row(t, []string{one(fixed.Apply(f, api.Mul, 3, 3)), one(fixed.Apply(f, api.Add, 7, 1)), one(fixed.Apply(w, api.Add, 7, 1)), one(fixed.Apply(f, api.Div, 3, 2)), one(fixed.Apply(f, api.Div, 3, 0)), one(fixed.Apply(f, api.Pow, 1, 9))}, "4", "ErrRange", "-8", "3", "ErrZero", "ErrKind")
}

func TestExampleConvertDot(t *testing.T) {
	row(t, []string{one(fixed.Convert(f, 3, g)), one(fixed.Convert(f, -3, g)), dot(f, f, "1 1 1", "1 1 1"), one(fixed.Apply(f, api.Mul, 1, 1)), dot(f, g, "1", "1 1")}, "2", "0", "2", "0", "ErrShape")
}

func TestExampleFit(t *testing.T) {
	row(t, []string{fit("-1", "3", 1, api.RoundDown), fit("0", "3", 0, api.RoundUp), fit("1", "0", 0, 0)}, "4 Bits, Frac 1, Signed", "2 Bits, Frac 0, Round 1", "ErrOrder")
}

func TestExampleBitsParse(t *testing.T) {
	row(t, []string{text(fixed.Bits(f, -8)), text(fixed.Bits(f, 7)), one(fixed.Parse(f, "1111")), one(fixed.Parse(f, "111"))}, "1000", "0111", "-1", "ErrForm")
}

// TestExampleOfLayer is the row of this layer in the document's table of examples.
func TestExampleOfLayer(t *testing.T) {
	row(t, []string{of(f, "7/4")}, "4")
}
