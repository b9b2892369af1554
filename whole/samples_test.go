package whole_test

import (
	"testing"

	"metewand/api"
	"metewand/internal/byhand"
	"metewand/whole"
)

// samples returns numbers of up to so many digits, those around the limits of limbs and machine words among them.
func samples(seed byhand.Chance, most int) []string {
	list := []string{"0", "1", "-1", "2", "-7", "10"}
	for _, digits := range []int{2, 8, 9, 10, 17, 18, 19, 20, 27, 28, 36, 37, 90, 133, 199, 200, 216, 260, 399, 400} {
		if digits <= most {
			list = append(list, seed.Number(digits), seed.Number(digits))
		}
	}
	return list
}

// pairs calls check with pairs of samples.
func pairs(seed byhand.Chance, most int, check func(a, b string)) {
	list := samples(seed, most)
	for _, a := range list {
		for range 12 {
			check(a, list[seed.Below(len(list))])
		}
		check(a, "0")
		check("0", a)
		check(a, a)
		check(a, byhand.Minus(a))
	}
}

// must returns a function that returns a result, or ends the test if there is an error.
func must(t *testing.T) func(s string, e api.Errno) string {
	return func(s string, e api.Errno) string {
		t.Helper()
		if e != api.OK {
			t.Fatalf("unexpected error %d", e)
		}
		return s
	}
}

// fits returns what a function returns whose result by hand is a.
func fits(a string) (string, api.Errno) {
	if len(byhand.Amount(a)) > api.Digits {
		return "", api.ErrLarge
	}
	return a, api.OK
}

// sumOfProducts returns a x + b y, by hand.
func sumOfProducts(a, x, b, y string) string {
	return byhand.Add(byhand.Mul(a, x), byhand.Mul(b, y))
}

func compare(t *testing.T, a, b string) int {
	t.Helper()
	order, e := whole.Compare(a, b)
	if e != api.OK {
		t.Fatalf("Compare(%s, %s): error %d", byhand.Preview(a), byhand.Preview(b), e)
	}
	return order
}
