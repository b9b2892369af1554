package enclose_test

import (
	"strconv"
	"strings"
	"testing"

	"metewand/api"
	"metewand/enclose"
	"metewand/internal/outcome"
)

var (
	q    = outcome.Number
	row  = outcome.Row
	in   = outcome.Span
	text = outcome.WrittenSpan
)

// The enclosures of the chapter's examples.
var (
	a = in("1..2")
	b = in("-1..3")
	c = in("1/2..1/2")
	z = in("0..0")
)

func one(a api.Enclosure, e api.Errno) string { return outcome.Of(e, text(a)) }

func list(l []api.Enclosure, e api.Errno) string {
	words := make([]string, len(l))
	for i, a := range l {
		words[i] = text(a)
	}
	return outcome.Of(e, strings.Join(words, " "))
}

func check(s string) string { return outcome.Name(enclose.Check(in(s))) }

func is(is bool, e api.Errno) string { return outcome.Of(e, strconv.FormatBool(is)) }

func verdict(n int, e api.Errno) string {
	return outcome.Of(e, map[int]string{0: "none", api.Yes: "Yes", api.No: "No", api.Maybe: "Maybe"}[n])
}

func TestExampleCheckHas(t *testing.T) {
	row(t, []string{outcome.Name(enclose.Check(a)), check("2..1"), check("2/4..1")}, "OK", "ErrOrder", "ErrForm")
	row(t, []string{is(enclose.Has(b, q("0"))), is(enclose.Has(a, q("3")))}, "true", "false")
}

func TestExamplePlusMinusTimes(t *testing.T) {
	row(t, []string{one(enclose.Plus(a, b)), one(enclose.Minus(a, b)), one(enclose.Times(a, b)), one(enclose.Times(b, b))}, "0..5", "-2..3", "-2..6", "-3..9")
}

func TestExampleOverPower(t *testing.T) {
	row(t, []string{one(enclose.Over(b, a)), one(enclose.Over(a, b))}, "-1..3", "ErrZero")
	row(t, []string{one(enclose.Power(b, 2)), one(enclose.Power(b, 3)), one(enclose.Power(b, 0))}, "0..9", "-1..27", "1..1")
}

func TestExampleSolve(t *testing.T) {
	row(t, []string{list(enclose.Solve(a, b, in("-9..9"))), list(enclose.Solve(a, b, in("0..9"))), list(enclose.Solve(a, z, a)), list(enclose.Solve(z, b, a)), list(enclose.Solve(a, c, in("0..3")))}, "-9..-1 1/3..9", "1/3..9", "", "1..2", "2..3")
}

func TestExampleMeetHull(t *testing.T) {
	row(t, []string{one(enclose.Meet(a, b)), one(enclose.Meet(a, c)), one(enclose.Hull(a, c))}, "1..2", "ErrNone", "1/2..2")
}

func TestExampleBelow(t *testing.T) {
	row(t, []string{verdict(enclose.Below(c, a)), verdict(enclose.Below(a, c)), verdict(enclose.Below(a, b)), verdict(enclose.Below(a, a))}, "Yes", "No", "Maybe", "Maybe")
}

func TestExampleRound(t *testing.T) {
	row(t, []string{one(enclose.Round(in("1/3..2/3"), 2)), one(enclose.Round(a, 0)), one(enclose.Round(a, 9))}, "33/100..67/100", "1..2", "ErrValue")
}

func TestExampleRoot(t *testing.T) {
	row(t, []string{one(enclose.Root(a, 3)), one(enclose.Root(z, 2)), one(enclose.Root(b, 1))}, "1..283/200", "0..0", "ErrValue")
}

func TestExampleExp(t *testing.T) {
	row(t, []string{one(enclose.Exp(z, 3)), one(enclose.Exp(a, 2)), one(enclose.Exp(in("5..5"), 2))}, "1..1", "271/100..739/100", "ErrValue")
}

func TestExampleLog(t *testing.T) {
	row(t, []string{one(enclose.Log(a, 4)), one(enclose.Log(in("1..1"), 2)), one(enclose.Log(z, 1))}, "0..1733/2500", "0..0", "ErrValue")
}

func TestExampleSin(t *testing.T) {
	row(t, []string{one(enclose.Sin(z, 2)), one(enclose.Sin(a, 3)), one(enclose.Sin(in("-4..4"), 1))}, "0..0", "841/1000..1", "-1..1")
}

// TestExampleOfLayer is the row of this layer in the document's table of examples.
func TestExampleOfLayer(t *testing.T) {
	row(t, []string{one(enclose.Times(b, b))}, "-3..9")
}
