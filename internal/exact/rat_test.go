package exact

import (
	"math"
	"strconv"
	"strings"
	"testing"

	"metewand/api"
	"metewand/internal/byhand"
	"metewand/internal/failure"
)

// is tells whether a is num/den, and in lowest terms.
func is(a Rat, num, den string) bool {
	want := byhand.Reduced(num, den)
	return a.num.text() == byhand.Amount(want.Num) && a.minus == byhand.Negative(want.Num) && a.below().text() == want.Den
}

func rats(seed byhand.Chance) []api.Rat {
	all := []api.Rat{{Num: "0", Den: "1"}, {Num: "1", Den: "1"}, {Num: "-1", Den: "1"}, {Num: "1", Den: "2"}, {Num: "-3", Den: "2"}, {Num: "18446744073709551616", Den: "18446744073709551615"}}
	for range 30 {
		common := byhand.Add(byhand.Amount(seed.Number(1+seed.Below(30))), "1")
		num, den := seed.Number(1+seed.Below(60)), byhand.Add(byhand.Amount(seed.Number(1+seed.Below(60))), "1")
		all = append(all, byhand.Reduced(byhand.Mul(num, common), byhand.Mul(den, common)), byhand.Reduced(num, common))
	}
	return all
}

func TestArithmetic(t *testing.T) {
	all := rats(11)
	for _, x := range all {
		a := Of(x)
		if !is(a.Negated(), byhand.Minus(x.Num), x.Den) || !is(a.Amount(), byhand.Amount(x.Num), x.Den) || a.IsZero() != (x.Num == "0") {
			t.Error(x)
		}
		for _, y := range all {
			b := Of(y)
			sum, difference, product := byhand.Sum(x, y), byhand.Difference(x, y), byhand.Product(x, y)
			if !is(a.Plus(b), sum.Num, sum.Den) || !is(a.Minus(b), difference.Num, difference.Den) || !is(a.Times(b), product.Num, product.Den) {
				t.Fatal(x, y)
			}
			if b.IsZero() {
				continue
			}
			if quotient := byhand.Quotient(x, y); !is(a.Over(b), quotient.Num, quotient.Den) {
				t.Fatal(x, y)
			}
		}
	}
}

func TestCompare(t *testing.T) {
	all := rats(13)
	for _, x := range all {
		for _, y := range all {
			if got := Of(x).Compare(Of(y)); got != byhand.Order(x, y) {
				t.Fatal(x, y, got)
			}
		}
	}
}

// TestPer: so many times, and not once more.
func TestPer(t *testing.T) {
	all := rats(14)
	for _, x := range all {
		for _, y := range all {
			if y.Num == "0" {
				continue
			}
			a, b := Of(x), Of(y)
			times, e := a.Per(b).Plain()
			ratio := a.Over(b)
			if e != api.OK || times.Den != "1" || Of(times).Compare(ratio) > 0 || Of(times).Plus(One()).Compare(ratio) <= 0 {
				t.Fatal(x, y, times, e)
			}
		}
	}
	for n, want := range map[int]int{-7: -4, -6: -3, -1: -1, 0: 0, 1: 0, 5: 2, 6: 3} {
		if got := Whole(n).Per(Whole(2)); got.Compare(Whole(want)) != 0 || Whole(-n).Per(Whole(-2)).Compare(got) != 0 {
			t.Error(n, got.Text())
		}
	}
}

// TestRoot: a number that is not whole has the root of its whole part.
func TestRoot(t *testing.T) {
	for _, x := range rats(15) {
		a := Of(x).Amount()
		for _, a := range []Rat{a, a.Times(a), a.Per(One())} {
			root := a.Root()
			next := root.Plus(One())
			if root.Per(One()).Compare(root) != 0 || root.Times(root).Compare(a) > 0 || next.Times(next).Compare(a) <= 0 {
				t.Fatal(x, root.Text())
			}
		}
	}
}

func TestWhole(t *testing.T) {
	for _, n := range []int{0, 1, -1, 7, -355, math.MaxInt, math.MinInt} {
		if got := Whole(n); got.Text() != strconv.Itoa(n) || got.IsZero() != (n == 0) {
			t.Error(n, got.Text())
		}
	}
}

func TestInt(t *testing.T) {
	for _, n := range []int{0, 1, -1, 7, -355, math.MaxInt, math.MaxInt - 1, math.MinInt, math.MinInt + 1} {
		if got := Whole(n); got.Int() != n || got.Low() != uint64(n) {
			t.Error(n, got.Int(), got.Low())
		}
	}
	for s, want := range map[string]int{
		"9223372036854775808": math.MaxInt, "18446744073709551615": math.MaxInt, "18446744073709551616": math.MaxInt, "18446744073709551617": math.MaxInt,
		"-9223372036854775809": math.MinInt, "-18446744073709551616": math.MinInt, "-18446744073709551617": math.MinInt,
	} {
		if got := Of(api.Rat{Num: s, Den: "1"}).Int(); got != want {
			t.Error(s, got)
		}
	}
}

// TestLow: by hand, what remains of a number divided by 2^64.
func TestLow(t *testing.T) {
	seed := byhand.Chance(16)
	words := "18446744073709551616"
	for range 60 {
		s := seed.Number(1 + seed.Below(60))
		_, rest := byhand.Divide(byhand.Amount(s), words)
		if byhand.Negative(s) && rest != "0" {
			rest = byhand.Add(words, byhand.Minus(rest))
		}
		if got := Of(byhand.Reduced(s, "1")).Low(); strconv.FormatUint(got, 10) != rest {
			t.Error(s, got, rest)
		}
	}
}

func TestZero(t *testing.T) {
	zero, one := Rat{}, One()
	two := one.Plus(one)
	for i, x := range []struct {
		a    Rat
		want string
	}{
		{zero, "0/1"}, {zero.Negated(), "0/1"}, {zero.Amount(), "0/1"}, {zero.Plus(zero), "0/1"}, {zero.Minus(one), "-1/1"}, {one.Minus(one), "0/1"}, {zero.Times(two), "0/1"}, {two.Times(zero.Negated()), "0/1"}, {zero.Over(two.Negated()), "0/1"}, {one.Over(two.Negated()), "-1/2"}, {one.Over(two).Plus(one.Over(two)), "1/1"}, {Of(api.Rat{Num: "0", Den: "1"}), "0/1"},
	} {
		if got, e := x.a.Plain(); got.Num+"/"+got.Den != x.want || e != api.OK || x.a.IsZero() != (x.want == "0/1") {
			t.Error(i, got, e)
		}
	}
}

// TestPlain has numbers of 400 and of 401 digits, and much longer ones on the way.
func TestPlain(t *testing.T) {
	nines, tens := strings.Repeat("9", 400), "1"+strings.Repeat("0", 399)
	for _, a := range []api.Rat{{Num: "0", Den: "1"}, {Num: "-7", Den: "3"}, {Num: nines, Den: "1"}, {Num: "-" + nines, Den: tens}, {Num: "-1", Den: nines}} {
		if got, e := Of(a).Plain(); got != a || e != api.OK {
			t.Error(byhand.Preview(a.Num), byhand.Preview(a.Den), e)
		}
		if got, e := failure.Guarded(Of(a).Returned); got != a || e != api.OK {
			t.Error(byhand.Preview(a.Num), byhand.Preview(a.Den), e)
		}
	}
	long, ten := Of(api.Rat{Num: nines, Den: "1"}), Of(api.Rat{Num: "10", Den: "1"})
	for i, a := range []Rat{long.Plus(One()), long.Negated().Minus(One()), One().Over(long.Plus(One())), long.Times(ten), long.Over(ten.Times(long).Times(ten)).Over(long), long.Times(long).Times(long)} {
		if got, e := a.Plain(); got != (api.Rat{}) || e != api.ErrLarge {
			t.Error(i, byhand.Preview(got.Num), e)
		}
		if got, e := failure.Guarded(a.Returned); got != (api.Rat{}) || e != api.ErrLarge {
			t.Error(i, byhand.Preview(got.Num), e)
		}
	}
	power := One()
	for range 40 {
		power = power.Times(long)
	}
	for range 39 {
		power = power.Over(long)
	}
	if got, e := power.Plain(); got.Num != nines || got.Den != "1" || e != api.OK {
		t.Error(byhand.Preview(got.Num), e)
	}
}

// TestRatText: equal numbers have equal texts, also where they have too many digits to be returned.
func TestRatText(t *testing.T) {
	for _, x := range rats(12) {
		want := x.Num
		if x.Den != "1" {
			want += "/" + x.Den
		}
		if got := Of(x).Text(); got != want {
			t.Error(got, want)
		}
	}
	long := Of(api.Rat{Num: "-1" + strings.Repeat("0", 399), Den: "1"})
	zeros := strings.Repeat("0", 798)
	for want, got := range map[string]Rat{"0": long.Minus(long), "1": long.Over(long), "-1/" + long.Text()[1:]: One().Over(long), "1" + zeros: long.Times(long), "1/1" + zeros: One().Over(long).Over(long)} {
		if got.Text() != want {
			t.Error(byhand.Preview(got.Text()), byhand.Preview(want))
		}
	}
}
