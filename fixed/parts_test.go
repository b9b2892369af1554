package fixed

import (
	"math"
	"testing"

	"metewand/api"
	"metewand/internal/exact"
)

// TestLaws is what all laws make of halves around 0.
func TestLaws(t *testing.T) {
	for law, want := range map[int][]int{
		api.RoundDown: {-2, -2, -1, -1, 0, 0, 1, 1, 2},
		api.RoundUp:   {-2, -1, -1, 0, 0, 1, 1, 2, 2},
		api.RoundZero: {-2, -1, -1, 0, 0, 0, 1, 1, 2},
		api.RoundAway: {-2, -2, -1, -1, 0, 1, 1, 2, 2},
		api.RoundEven: {-2, -2, -1, 0, 0, 0, 1, 2, 2},
		api.RoundHalf: {-2, -1, -1, 0, 0, 1, 1, 2, 2},
	} {
		for i, n := range want {
			if got := pointAt(exact.Whole(i - 4).Over(exact.Whole(2))).rounded(law); got.Int() != n {
				t.Error(law, i-4, got.Text())
			}
		}
	}
}

func TestLimited(t *testing.T) {
	for n, want := range map[int]int{math.MinInt: -2, -3: -2, -2: -2, 0: 0, 5: 5, 6: 5, math.MaxInt: 5} {
		if got := limited(n, -2, 5); got != want || within(n, -2, 5) != (got == n) {
			t.Error(n, got)
		}
	}
	if !within('1', '0', '1') || within('é', '0', '1') || limited("b", "c", "d") != "c" {
		t.Error("of other types")
	}
}

// TestCongruent goes through patterns near both ends of the uint64s and of the words.
func TestCongruent(t *testing.T) {
	for bits := 1; bits <= api.FixedBits; bits++ {
		for _, sign := range []bool{false, true} {
			words := wordsOf(api.FixedForm{Bits: bits, Signed: sign, Over: api.OverWrap})
			least, most := words.ends()
			if uint64(most)-uint64(least) != 1<<bits-1 || (least < 0) != sign {
				t.Fatal(bits, least, most)
			}
			for _, w := range []int{least, least + 1, 0, most - 1, most} {
				if !words.has(w) {
					continue
				}
				for _, turns := range []uint64{0, 1, 5, math.MaxUint64} {
					if got := words.congruent(uint64(w) + turns<<bits); got != w {
						t.Error(bits, w, turns, got)
					}
				}
			}
			for _, n := range []int{least - 1, most + 1, math.MinInt, math.MaxInt} {
				if words.has(n) {
					t.Error(bits, n)
				}
			}
		}
	}
}

// TestWays is that each way is a type.
func TestWays(t *testing.T) {
	for over, want := range []words{failing{span{-2, 1}}, clipping{span{-2, 1}}, wrapping{span{-2, 1}}} {
		if got := wordsOf(api.FixedForm{Bits: 2, Signed: true, Over: over}); got != want {
			t.Errorf("%d: %T", over, got)
		}
	}
}
