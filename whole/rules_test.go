package whole_test

import (
	"math"
	"slices"
	"strings"
	"sync"
	"testing"

	"metewand/api"
	"metewand/internal/byhand"
	"metewand/whole"
)

// odd returns strings of all kinds, valid ones and others.
func odd() []string {
	return []string{"", "-", "0", "-0", "1", "-1", "00", "x", "\x00", "\xff\xfe", "9223372036854775807", "9223372036854775808", "-9223372036854775808", "18446744073709551616", nines, "-" + nines, over, "-" + over, strings.Repeat("-", 500), strings.Repeat("z", 3000), "1" + strings.Repeat("0", 2000)}
}

// outcomes calls all functions with some arguments, and returns what they return.
func outcomes(a, b, c string, n int) []string {
	return []string{check(a), order(whole.Compare(a, b)), one(whole.Add(a, b)), one(whole.Sub(a, b)), one(whole.Mul(a, b)), two(whole.Floor(a, b)), two(whole.Quo(a, b)), three(whole.Gcd(a, b)), one(whole.Pow(a, n)), one(whole.PowMod(a, b, c)), one(whole.Root(a, n)), one(whole.Base(a, n)), one(whole.FromBase(a, n)), primes(a)}
}

// TestP1NoPanic is the promise P1: each function returns, whatever its arguments are.
func TestP1NoPanic(t *testing.T) {
	seed := byhand.Chance(31)
	for _, a := range odd() {
		for _, b := range odd() {
			for _, n := range []int{math.MinInt, -1, 0, 1, 2, 20, 36, 37, 1000, 1001, math.MaxInt} {
				outcomes(a, b, odd()[seed.Below(len(odd()))], n)
			}
		}
	}
}

// TestR1 is the order of errors: of the first number, of the next ones, those that the promise names, ErrLarge.
func TestR1(t *testing.T) {
	valid := func(s string) bool { return whole.Check(s) == api.OK }
	for _, a := range odd() {
		for _, b := range odd() {
			first := check(a)
			if valid(a) {
				first = check(b)
			}
			if first == "OK" {
				continue
			}
			row(t, []string{order(whole.Compare(a, b)), one(whole.Add(a, b)), one(whole.Sub(a, b)), one(whole.Mul(a, b)), two(whole.Floor(a, b)), two(whole.Quo(a, b)), three(whole.Gcd(a, b)), one(whole.PowMod(a, b, "x")), one(whole.PowMod("1", a, b))}, slices.Repeat([]string{first}, 9)...)
		}
		if !valid(a) {
			row(t, []string{two(whole.Floor(a, "0")), two(whole.Quo(a, "0")), one(whole.Pow(a, -1)), one(whole.Root(a, 0)), one(whole.Base(a, 1)), primes(a), one(whole.PowMod("1", "-1", a)), one(whole.PowMod("2", "3", a)), one(whole.PowMod("2", a, "0"))}, slices.Repeat([]string{check(a)}, 9)...)
		}
	}
	row(t, []string{one(whole.Pow(nines, 1001)), one(whole.Pow(nines, 1000)), one(whole.FromBase(strings.Repeat("1", 2000), 1)), one(whole.FromBase(strings.Repeat("1", 2000)+"2", 2)), one(whole.FromBase(strings.Repeat("1", 2000), 2))}, "ErrValue", "ErrLarge", "ErrValue", "ErrForm", "ErrLarge")
}

// TestR3 is that results are zero values if there is an error.
func TestR3(t *testing.T) {
	empty := func(e api.Errno, results ...string) {
		t.Helper()
		if e == api.OK || slices.ContainsFunc(results, func(s string) bool { return s != "" }) {
			t.Errorf("error %d with %q", e, results)
		}
	}
	text := func(s string, e api.Errno) { t.Helper(); empty(e, s) }
	pair := func(q, r string, e api.Errno) { t.Helper(); empty(e, q, r) }
	if n, e := whole.Compare("2", "x"); n != 0 || e != api.ErrForm {
		t.Error(n, e)
	}
	text(whole.Add(nines, nines))
	text(whole.Sub("-"+nines, nines))
	text(whole.Mul(nines, nines))
	pair(whole.Floor("1", "0"))
	pair(whole.Quo("1", "0"))
	g, x, y, e := whole.Gcd("1", "")
	empty(e, g, x, y)
	text(whole.Pow("10", 400))
	text(whole.PowMod("1", "1", "0"))
	text(whole.Root("2", 0))
	text(whole.Base("2", 0))
	text(whole.FromBase(over, 10))
	if l, e := whole.Factor("0"); len(l) != 0 || e != api.ErrValue {
		t.Error(l, e)
	}
}

// TestR2 is that nothing is remembered between calls, and that calls at the same time do not disturb each other.
func TestR2(t *testing.T) {
	seed := byhand.Chance(32)
	a, b, c := seed.Number(400), seed.Number(390), byhand.Amount(seed.Number(380))
	want := outcomes(a, b, c, 7)
	var all sync.WaitGroup
	for range 8 {
		all.Go(func() {
			for range 5 {
				if got := outcomes(a, b, c, 7); !slices.Equal(got, want) {
					t.Errorf("got %q, want %q", got, want)
				}
				outcomes(b, a, a, 3)
			}
		})
	}
	all.Wait()
}

// TestR4 is that no result shares memory with another one.
func TestR4(t *testing.T) {
	first, _ := whole.Factor("360")
	second, _ := whole.Factor("360")
	for i := range first {
		first[i] = "changed"
	}
	_ = append(first[:1], "changed")
	third, _ := whole.Factor("360")
	want := []string{"2", "2", "2", "3", "3", "5"}
	if !slices.Equal(second, want) || !slices.Equal(third, want) {
		t.Error(second, third)
	}
}
