package dim

import (
	"slices"
	"testing"

	"metewand/api"
	"metewand/internal/exact"
)

// TestFactorsIn: the factors end where their reader does, and where the text does.
func TestFactorsIn(t *testing.T) {
	var bases []string
	for f := range factorsIn("m*s^2*kg*!") {
		bases = append(bases, f.powers[0].Base)
		if len(bases) == 3 {
			break
		}
	}
	for f := range factorsIn("a") {
		bases = append(bases, f.powers[0].Base)
	}
	if !slices.Equal(bases, []string{"m", "s", "kg", "a"}) {
		t.Error(bases)
	}
	factors := factorsIn("m*s")
	for range 2 {
		if got := product(slices.Collect(factors)...); len(got) != 2 {
			t.Error(got)
		}
	}
}

// TestFirstFault: nothing is looked at behind the first one.
func TestFirstFault(t *testing.T) {
	var seen []int
	e := firstFault([]int{0, 0, 8, 0, 7}, func(n int) api.Errno {
		seen = append(seen, n)
		return api.Errno(n)
	})
	if e != api.ErrFew || !slices.Equal(seen, []int{0, 0, 8}) || firstFault([]int{0, 0}, func(n int) api.Errno { return api.Errno(n) }) != api.OK {
		t.Error(e, seen)
	}
}

// TestWith: a basis stays as it is when it gets a row more.
func TestWith(t *testing.T) {
	b := make(basis, 1, 5)
	b[0].lead = "a"
	first := b.with(row{lead: "b"})
	second := b.with(row{lead: "c"})
	if len(b) != 1 || len(first) != 2 || first[1].lead != "b" || second[1].lead != "c" {
		t.Error(b, first, second)
	}
}

// TestGain: exponents that get 0 are not there any more.
func TestGain(t *testing.T) {
	x := exponents[string]{}
	two := exact.One().Plus(exact.One())
	x.gain("m", two)
	x.gain("s", exact.Rat{})
	x.lose("m", exact.One())
	if len(x) != 1 {
		t.Error(x)
	}
	x.lose("m", exact.One())
	x.lose("kg", exact.Rat{})
	if len(x) != 0 {
		t.Error(x)
	}
}
