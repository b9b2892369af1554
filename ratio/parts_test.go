package ratio

import (
	"slices"
	"strconv"
	"strings"
	"testing"

	"metewand/api"
	"metewand/internal/byhand"
	"metewand/internal/failure"
)

// fractions returns all numbers from -2 to 2 with denominators of at most so many.
func fractions(most int) []number {
	var all []number
	for d := 1; d <= most; d++ {
		for n := -2 * d; n <= 2*d; n++ {
			if x := quotient(strconv.Itoa(n), strconv.Itoa(d)); x.Den == strconv.Itoa(d) {
				all = append(all, x)
			}
		}
	}
	return all
}

// TestLong: short numbers have the same sums, and the same order, in the ways of long ones.
func TestLong(t *testing.T) {
	all := fractions(12)
	for _, n := range all {
		for _, m := range all {
			if sum := n.mixed().plusLong(m.mixed()); sum.improper() != n.plus(m) || order(sum.Num, sum.Den) >= 0 || negative(sum.Num) {
				t.Errorf("%s and %s: %s and %s", n.text(), m.text(), sum.floor, sum.text())
			}
			if n.compareLong(m) != n.compare(m) {
				t.Errorf("%s and %s: %d", n.text(), m.text(), n.compareLong(m))
			}
		}
	}
}

// TestShifted: the digits of numbers whose denominators have about 400 digits, and what is left behind them.
func TestShifted(t *testing.T) {
	seed := byhand.Chance(51)
	for n := range 40 {
		den := byhand.Amount(seed.Number(398 + n%3))
		_, num := byhand.Divide(byhand.Amount(seed.Number(400)), den)
		want, left := byhand.Divide(num+strings.Repeat("0", 10), den)
		digits, rest := []byte(nil), of(num, den)
		for range 10 {
			var digit byte
			digit, rest = rest.shifted()
			digits = append(digits, digit)
		}
		if byhand.Add("0", string(digits)) != want || rest != of(left, den) {
			t.Errorf("%s of %s: %s, want %s", byhand.Preview(num), byhand.Preview(den), digits, want)
		}
	}
}

// TestDigits: digits end where their reader does, and each comes with what is left before it.
func TestDigits(t *testing.T) {
	var got []string
	for part, digit := range of("1", "6").digits() {
		got = append(got, part.text()+string(rune(digit)))
		if len(got) == 3 {
			break
		}
	}
	if want := []string{"1/61", "4/66", "4/66"}; !slices.Equal(got, want) {
		t.Error(got)
	}
	terms := 0
	for range of("355", "113").terms() {
		if terms++; terms == 2 {
			break
		}
	}
	if terms != 2 {
		t.Error(terms)
	}
}

// TestSideBySide: both ways return the same, and the error of the numerator first.
func TestSideBySide(t *testing.T) {
	text := func() string { return "7" }
	zero := func() string { failure.Throw(api.ErrZero); return "" }
	large := func() string { failure.Throw(api.ErrLarge); return "" }
	fault := func() string { panic("x") }
	for _, short := range []bool{true, false} {
		for _, x := range []struct {
			num, den func() string
			want     api.Errno
		}{{text, text, api.OK}, {zero, text, api.ErrZero}, {text, large, api.ErrLarge}, {zero, large, api.ErrZero}, {large, zero, api.ErrLarge}, {text, fault, api.ErrLimit}} {
			n, e := failure.Guarded(func() number { return sideBySide(short, x.num, x.den) })
			if e != x.want || (n == of("7", "7")) != (e == api.OK) {
				t.Error(short, n, e, x.want)
			}
		}
	}
}

// TestAppended: the list that is given keeps what is behind its end.
func TestAppended(t *testing.T) {
	list := []string{"1", "2", "3"}
	got := appended(list[:1], "7", "8")
	if !slices.Equal(got, []string{"1", "7", "8"}) || !slices.Equal(list, []string{"1", "2", "3"}) {
		t.Error(got, list)
	}
}

// TestNearest keeps the first one of those that are as near.
func TestNearest(t *testing.T) {
	k := nearest[int]{nearer: func(x, y int) bool { return x/10 < y/10 }}
	for _, x := range []int{35, 21, 29, 40, 22} {
		k.offer(x)
	}
	if k.kept != 21 {
		t.Error(k.kept)
	}
}

// TestIncreased carries.
func TestIncreased(t *testing.T) {
	for digits, want := range map[string]string{"0": "1", "8": "9", "9": "10", "199": "200", "999": "1000", "0099": "0100"} {
		if got := string(increased([]byte(digits))); got != want {
			t.Error(digits, got)
		}
	}
}
