package whole_test

import (
	"strconv"
	"strings"
	"testing"

	"metewand/api"
	"metewand/internal/outcome"
	"metewand/whole"
)

var row = outcome.Row

func one(s string, e api.Errno) string { return outcome.Of(e, s) }

func two(q, r string, e api.Errno) string { return outcome.Of(e, q, r) }

func three(g, x, y string, e api.Errno) string { return outcome.Of(e, g, x, y) }

func order(n int, e api.Errno) string { return outcome.Of(e, strconv.Itoa(n)) }

func check(a string) string {
	return outcome.Name(whole.Check(a))
}

func primes(a string) string {
	l, e := whole.Factor(a)
	return outcome.Of(e, strings.Join(l, " "))
}

func TestExampleCheck(t *testing.T) {
	row(t, []string{check("-12"), check("007"), check("-0"), check(""), check("1.5")}, "OK", "ErrForm", "ErrForm", "ErrForm", "ErrForm")
}

func TestExampleCompare(t *testing.T) {
	row(t, []string{order(whole.Compare("-12", "-3")), order(whole.Compare("10", "9")), order(whole.Compare("5", "5"))}, "-1", "1", "0")
}

func TestExampleAddSubMul(t *testing.T) {
	row(t, []string{one(whole.Add("99999999", "1")), one(whole.Add("-5", "5")), one(whole.Sub("1", "100")), one(whole.Mul("-12345", "6789"))}, "100000000", "0", "-99", "-83810205")
}

func TestExampleFloor(t *testing.T) {
	row(t, []string{two(whole.Floor("7", "2")), two(whole.Floor("-7", "2")), two(whole.Floor("7", "-2")), two(whole.Floor("1", "0"))}, "3, 1", "-4, 1", "-4, -1", "ErrZero")
}

func TestExampleQuo(t *testing.T) {
	row(t, []string{two(whole.Quo("-7", "2")), two(whole.Quo("7", "-2"))}, "-3, -1", "-3, 1")
}

func TestExampleGcd(t *testing.T) {
	row(t, []string{three(whole.Gcd("12", "18")), three(whole.Gcd("0", "0")), three(whole.Gcd("-4", "0")), three(whole.Gcd("7", "-3"))}, "6, 2, -1", "0, 0, 0", "4, -1, 0", "1, 1, 2")
}

func TestExamplePow(t *testing.T) {
	row(t, []string{one(whole.Pow("-2", 10)), one(whole.Pow("2", 1001)), one(whole.PowMod("3", "100", "7")), one(whole.PowMod("5", "-1", "3"))}, "1024", "ErrValue", "4", "ErrValue")
}

func TestExampleRoot(t *testing.T) {
	row(t, []string{one(whole.Root("99", 2)), one(whole.Root("1000", 3)), one(whole.Root("-1", 2))}, "9", "10", "ErrValue")
}

func TestExampleBase(t *testing.T) {
	row(t, []string{one(whole.Base("-255", 16)), one(whole.Base("8", 2)), one(whole.FromBase("zz", 36)), one(whole.FromBase("012", 8)), one(whole.FromBase("19", 8))}, "-ff", "1000", "1295", "ErrForm", "ErrForm")
}

func TestExampleFactor(t *testing.T) {
	row(t, []string{primes("360"), primes("1"), primes("0"), primes("1000001")}, "2 2 2 3 3 5", "", "ErrValue", "ErrLarge")
}

// TestExampleOfLayer is the row of this layer in the document's table of examples.
func TestExampleOfLayer(t *testing.T) {
	row(t, []string{two(whole.Floor("-7", "2"))}, "-4, 1")
}
