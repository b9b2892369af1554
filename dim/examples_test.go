package dim_test

import (
	"strconv"
	"strings"
	"testing"

	"metewand/api"
	"metewand/dim"
	"metewand/internal/outcome"
)

var (
	q   = outcome.Number
	d   = outcome.Dim
	row = outcome.Row
)

// dims returns the dimensions that are written with commas between them.
func dims(s string) [][]api.Power {
	var l [][]api.Power
	for part := range strings.SplitSeq(s, ",") {
		l = append(l, d(part))
	}
	return l
}

// rats returns the numbers that are written with blanks between them.
func rats(s string) []api.Rat {
	var l []api.Rat
	for word := range strings.FieldsSeq(s) {
		l = append(l, q(word))
	}
	return l
}

// standIns returns the list in which each base, and the dimension that stands for it, are written with an equals sign between them.
func standIns(parts ...string) []api.DimBase {
	var l []api.DimBase
	for _, part := range parts {
		base, dimension, _ := strings.Cut(part, "=")
		l = append(l, api.DimBase{Base: base, Dim: d(dimension)})
	}
	return l
}

func check(s string) string { return outcome.Name(dim.Check(d(s))) }

func same(is bool, e api.Errno) string { return outcome.Of(e, strconv.FormatBool(is)) }

func one(d []api.Power, e api.Errno) string { return outcome.Of(e, outcome.WrittenDim(d)) }

func exponent(x api.Rat, e api.Errno) string { return outcome.Of(e, outcome.Written(x)) }

func text(s string, e api.Errno) string { return outcome.Of(e, s) }

func rank(n int, e api.Errno) string { return outcome.Of(e, strconv.Itoa(n)) }

func list(l []api.Rat, e api.Errno) string {
	words := make([]string, len(l))
	for i, x := range l {
		words[i] = outcome.Written(x)
	}
	return outcome.Of(e, strings.Join(words, " "))
}

func lists(groups [][]api.Rat, e api.Errno) string {
	words := make([]string, len(groups))
	for i, l := range groups {
		words[i] = list(l, api.OK)
	}
	return outcome.Of(e, strings.Join(words, " and "))
}

func TestExampleCheck(t *testing.T) {
	row(t, []string{check("m s^-2"), check("s m"), check("m^0"), check("M")}, "OK", "ErrOrder", "ErrValue", "ErrName")
}

func TestExampleMulDivPow(t *testing.T) {
	row(t, []string{one(dim.Mul(d("m s^-1"), d("s"))), one(dim.Mul(d("m"), d("m^-1"))), one(dim.Div(d("m"), d("s^2")))}, "m", "", "m s^-2")
	row(t, []string{one(dim.Pow(d("m^2 s"), q("1/2"))), one(dim.Pow(d("m"), q("0")))}, "m s^1/2", "")
}

func TestExampleExpProduct(t *testing.T) {
	row(t, []string{exponent(dim.Exp(d("m s^-2"), "s")), exponent(dim.Exp(d("m s^-2"), "kg")), exponent(dim.Exp(d("m s^-2"), "S"))}, "-2", "0", "ErrName")
	row(t, []string{one(dim.Product(dims("m,s"), rats("1 -2"))), one(dim.Product(dims("m,s"), rats("1")))}, "m s^-2", "ErrFew")
}

func TestExampleRebase(t *testing.T) {
	row(t, []string{one(dim.Rebase(d("kg m^2"), standIns("m=cm", "s=h"))), one(dim.Rebase(d("n^2"), standIns("n=kg m s^-2"))), one(dim.Rebase(d("kg"), standIns("m=s", "m=s")))}, "cm^2 kg", "kg^2 m^2 s^-4", "ErrTwice")
}

func TestExamplePrintParse(t *testing.T) {
	row(t, []string{text(dim.Print(d("kg m^2 s^-3/2"))), text(dim.Print(nil))}, "kg*m^2*s^-3/2", "1")
	row(t, []string{one(dim.Parse("s^-2*m")), one(dim.Parse("m*m^1/2*s^0")), one(dim.Parse("1"))}, "m s^-2", "m^3/2", "")
	row(t, []string{one(dim.Parse("m^")), one(dim.Parse("m*")), one(dim.Parse("1*m")), one(dim.Parse("m^0.5"))}, "ErrForm", "ErrForm", "ErrForm", "ErrForm")
}

func TestExampleRankExpress(t *testing.T) {
	l := dims("m,s,m s^-1,")
	row(t, []string{rank(dim.Rank(l)), list(dim.Express(l, d("m^2 s"))), list(dim.Express(l, d("kg")))}, "2", "2 1 0 0", "ErrNone")
}

func TestExampleGroups(t *testing.T) {
	row(t, []string{lists(dim.Groups(dims("m,s,m s^-1,"))), lists(dim.Groups(dims("kg m^-3,m s^-1,m,kg m^-1 s^-1")))}, "-1 1 1 0 and 0 0 0 1", "-1 -1 -1 1")
}

// TestExampleOfLayer is the row of this layer in the document's table of examples.
func TestExampleOfLayer(t *testing.T) {
	row(t, []string{one(dim.Div(d("m"), d("s^2")))}, "m s^-2")
}
