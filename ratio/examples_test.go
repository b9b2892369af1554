package ratio_test

import (
	"strconv"
	"strings"
	"testing"

	"metewand/api"
	"metewand/internal/outcome"
	"metewand/ratio"
)

var (
	q       = outcome.Number
	written = outcome.Written
	row     = outcome.Row
)

func check(s string) string { return outcome.Name(ratio.Check(q(s))) }

func rat(a api.Rat, e api.Errno) string { return outcome.Of(e, written(a)) }

func one(s string, e api.Errno) string { return outcome.Of(e, s) }

func two(front, period string, e api.Errno) string { return outcome.Of(e, front, period) }

func order(n int, e api.Errno) string { return outcome.Of(e, strconv.Itoa(n)) }

func list(l []string, e api.Errno) string { return outcome.Of(e, strings.Join(l, " ")) }

func TestExampleCheck(t *testing.T) {
	row(t, []string{check("-3/2"), check("2/4"), check("1/0"), check("0/2"), check("1/-2")}, "OK", "ErrForm", "ErrForm", "ErrForm", "ErrForm")
}

func TestExampleMakeCompare(t *testing.T) {
	row(t, []string{rat(ratio.Make("6", "-4")), rat(ratio.Make("0", "5")), rat(ratio.Make("1", "0")), order(ratio.Compare(q("1/3"), q("2/7")))}, "-3/2", "0", "ErrZero", "1")
}

func TestExampleAddMulDiv(t *testing.T) {
	row(t, []string{rat(ratio.Add(q("1/6"), q("1/3"))), rat(ratio.Add(q("1/2"), q("-1/2"))), rat(ratio.Mul(q("-2/3"), q("3/2"))), rat(ratio.Div(q("1/2"), q("0")))}, "1/2", "0", "-1", "ErrZero")
}

func TestExamplePow(t *testing.T) {
	row(t, []string{rat(ratio.Pow(q("-2/3"), -3)), rat(ratio.Pow(q("0"), 0)), rat(ratio.Pow(q("0"), -1)), rat(ratio.Pow(q("2"), 21))}, "-27/8", "1", "ErrZero", "ErrValue")
}

func TestExampleFloorNearest(t *testing.T) {
	row(t, []string{one(ratio.Floor(q("-7/2"))), one(ratio.Floor(q("7"))), one(ratio.Nearest(q("-7/2"))), one(ratio.Nearest(q("5/2"))), one(ratio.Nearest(q("8/3")))}, "-4", "7", "-4", "2", "3")
}

func TestExampleDecimal(t *testing.T) {
	row(t, []string{one(ratio.Decimal(q("2/3"), 3)), one(ratio.Decimal(q("-1/8"), 2)), one(ratio.Decimal(q("1/8"), 0)), one(ratio.Decimal(q("-1/1000"), 1))}, "0.667", "-0.12", "0", "0.0")
}

func TestExampleExpand(t *testing.T) {
	row(t, []string{two(ratio.Expand(q("1/7"))), two(ratio.Expand(q("-1/6"))), two(ratio.Expand(q("5/4"))), two(ratio.Expand(q("12")))}, "0., 142857", "-0.1, 6", "1.25, ", "12, ")
}

func TestExamplePrintParse(t *testing.T) {
	row(t, []string{one(ratio.Print(q("-3/2"))), one(ratio.Print(q("4")))}, "-3/2", "4")
	row(t, []string{rat(ratio.Parse("-3/2")), rat(ratio.Parse("6/4")), rat(ratio.Parse("-0.25")), rat(ratio.Parse(".5"))}, "-3/2", "ErrForm", "-1/4", "ErrForm")
}

func TestExampleFraction(t *testing.T) {
	row(t, []string{list(ratio.Fraction(q("-7/3"))), list(ratio.Fraction(q("355/113"))), list(ratio.Fraction(q("5")))}, "-3 1 2", "3 7 16", "5")
	row(t, []string{rat(ratio.OfFraction([]string{"3", "7", "16"})), rat(ratio.OfFraction([]string{"1", "1", "1"}))}, "355/113", "3/2")
}

func TestExampleBetween(t *testing.T) {
	row(t, []string{rat(ratio.Between(q("1/3"), q("1/2"))), rat(ratio.Between(q("-1"), q("1"))), rat(ratio.Between(q("3/10"), q("1/3"))), rat(ratio.Between(q("1"), q("1")))}, "2/5", "0", "4/13", "ErrOrder")
}

func TestExampleNear(t *testing.T) {
	row(t, []string{rat(ratio.Near(q("355/113"), 10)), rat(ratio.Near(q("1/2"), 1)), rat(ratio.Near(q("-7/5"), 2))}, "22/7", "0", "-3/2")
}

// TestExampleOfLayer is the row of this layer in the document's table of examples.
func TestExampleOfLayer(t *testing.T) {
	row(t, []string{two(ratio.Expand(q("-1/6")))}, "-0.1, 6")
}
