package fixed_test

import (
	"iter"
	"math"
	"strconv"
	"strings"

	"metewand/api"
	"metewand/internal/byhand"
)

var nines, tens, over = byhand.Limits()

var (
	compare = byhand.Order
	plus    = byhand.Sum
	minus   = byhand.Difference
	times   = byhand.Product
	divided = byhand.Quotient
)

func amount(x api.Rat) api.Rat { return api.Rat{Num: byhand.Amount(x.Num), Den: x.Den} }

func whole(n int) api.Rat { return api.Rat{Num: strconv.Itoa(n), Den: "1"} }

// power returns 2 to the power n, by hand.
func power(n int) api.Rat {
	a := whole(1)
	for range max(n, -n) {
		a.Num = byhand.Add(a.Num, a.Num)
	}
	if n < 0 {
		return api.Rat{Num: "1", Den: a.Num}
	}
	return a
}

func step(f api.FixedForm) api.Rat { return power(-f.Frac) }

// ends returns the least and the greatest word of a form, by hand.
func ends(f api.FixedForm) (least, most string) {
	if f.Signed {
		half := power(f.Bits - 1).Num
		return byhand.Minus(half), byhand.Add(half, "-1")
	}
	return "0", byhand.Add(power(f.Bits).Num, "-1")
}

// inside tells whether a whole number is a word.
func inside(f api.FixedForm, w string) bool {
	least, most := ends(f)
	return byhand.Compare(least, w) <= 0 && byhand.Compare(w, most) <= 0
}

// floor returns the quotient rounded down, and what remains, for all a.
func floor(a, b string) (quotient, rest string) {
	quotient, rest = byhand.Divide(byhand.Amount(a), b)
	if !byhand.Negative(a) || a == "0" {
		return quotient, rest
	}
	quotient = byhand.Minus(quotient)
	if rest == "0" {
		return quotient, rest
	}
	return byhand.Add(quotient, "-1"), byhand.Add(b, byhand.Minus(rest))
}

// rawWord returns the raw word of a number, by hand: of the whole numbers around x, it takes the one that the law's sentence is about.
func rawWord(f api.FixedForm, a api.Rat) string {
	x := times(a, power(f.Frac))
	below, rest := floor(x.Num, x.Den)
	above := byhand.Add(below, "1")
	if rest == "0" {
		return below
	}
	_, odd := floor(below, "2")
	order := byhand.Compare(byhand.Add(rest, rest), x.Den)
	var isAbove bool
	switch f.Round {
	case api.RoundUp:
		isAbove = true
	case api.RoundZero:
		isAbove = byhand.Negative(x.Num)
	case api.RoundAway:
		isAbove = !byhand.Negative(x.Num)
	case api.RoundEven:
		isAbove = order > 0 || order == 0 && odd == "1"
	case api.RoundHalf:
		isAbove = order >= 0
	}
	if isAbove {
		return above
	}
	return below
}

// word returns the word of a number by hand; none with api.ErrRange.
func word(f api.FixedForm, a api.Rat) (string, api.Errno) {
	raw := rawWord(f, a)
	if inside(f, raw) {
		return raw, api.OK
	}
	least, most := ends(f)
	switch f.Over {
	case api.OverClip:
		if byhand.Negative(raw) {
			return least, api.OK
		}
		return most, api.OK
	case api.OverWrap:
		_, rest := floor(raw, power(f.Bits).Num)
		if !inside(f, rest) {
			rest = byhand.Add(rest, byhand.Minus(power(f.Bits).Num))
		}
		return rest, api.OK
	}
	return "0", api.ErrRange
}

// number returns the number of a word by hand.
func number(f api.FixedForm, w int) api.Rat { return times(whole(w), step(f)) }

// small returns all forms with few bits, with each law, each way, and with and without a sign.
func small(bits, frac int) iter.Seq[api.FixedForm] {
	return func(yield func(api.FixedForm) bool) {
		for n := range bits {
			for p := -frac; p <= frac; p++ {
				for law := range 6 {
					for way := range 3 {
						for sign := range 2 {
							if !yield(api.FixedForm{Bits: n + 1, Frac: p, Round: law, Over: way, Signed: sign == 1}) {
								return
							}
						}
					}
				}
			}
		}
	}
}

// all returns the words of a form with few bits.
func all(f api.FixedForm) []int {
	least, most := 0, 1<<f.Bits-1
	if f.Signed {
		least, most = -(most+1)/2, most/2
	}
	var words []int
	for w := least; w <= most; w++ {
		words = append(words, w)
	}
	return words
}

// sample is how random forms, words and numbers look.
type sample struct {
	byhand.Chance
	digits int // of some numbers, at most; 0: all are small
}

func kinds(seed byhand.Chance) []*sample {
	return []*sample{{seed, 0}, {seed + 1, 12}, {seed + 2, 30}, {seed + 3, 150}}
}

// form returns a form of any kind; the ends of what it may be are often among it.
func (s *sample) form() api.FixedForm {
	f := api.FixedForm{Bits: 1 + s.Below(api.FixedBits), Frac: s.Below(2*api.FixedFrac+1) - api.FixedFrac, Round: s.Below(6), Over: s.Below(3), Signed: s.Below(2) == 0}
	switch s.Below(5) {
	case 0:
		f.Bits, f.Frac = 1+s.Below(4), s.Below(7)-3
	case 1:
		f.Bits = []int{1, 2, 61, 62}[s.Below(4)]
	case 2:
		f.Frac = []int{-40, -1, 0, 40}[s.Below(4)]
	}
	return f
}

// word returns a word of a form, often one of its ends.
func (s *sample) word(f api.FixedForm) int {
	pattern := uint64(s.Below(1<<31))<<31 | uint64(s.Below(1<<31))
	switch s.Below(4) {
	case 0:
		pattern = 0
	case 1:
		pattern = 1<<62 - 1
	case 2:
		pattern %= 16
	}
	w := int(pattern % (1 << f.Bits))
	if f.Signed {
		return w - 1<<(f.Bits-1)
	}
	return w
}

// near returns a number that is a word's, or close to one, or halfway between two, whether the form has them or not.
func (s *sample) near(f api.FixedForm) api.Rat {
	least, most := ends(f)
	w := strconv.Itoa(s.word(f))
	switch s.Below(4) {
	case 0:
		w = least
	case 1:
		w = most
	}
	x := api.Rat{Num: byhand.Add(w, strconv.Itoa(s.Below(7)-3)), Den: "1"}
	switch s.Below(4) {
	case 0:
		x = plus(x, byhand.Reduced("1", "2"))
	case 1:
		tiny := api.Rat{Num: "1", Den: byhand.Add(byhand.Amount(s.Number(1+s.Below(30))), "1")}
		x = plus(plus(x, tiny), byhand.Reduced(strconv.Itoa(s.Below(3)-1), "2"))
	case 2:
		x = plus(x, byhand.Reduced(strconv.Itoa(s.Below(13)-6), strconv.Itoa(1+s.Below(6))))
	}
	return times(x, step(f))
}

// rat returns a number of any kind for a form.
func (s *sample) rat(f api.FixedForm) api.Rat {
	if s.Below(2) == 0 {
		return s.near(f)
	}
	return s.Rat(s.digits)
}

// odd are ints that no form has as words, and others.
func odd() []int {
	return []int{math.MinInt, math.MinInt + 1, -1 << 62, -1<<61 - 1, -1 << 61, -41, -9, -1, 0, 1, 5, 6, 7, 8, 21, 41, 62, 63, 1<<61 - 1, 1 << 61, 1<<62 - 1, 1 << 62, math.MaxInt}
}

// binary returns the digits of a word by hand: it halves the word, or the word and 2^Bits.
func binary(f api.FixedForm, w int) string {
	value := strconv.Itoa(w)
	if w < 0 {
		value = byhand.Add(value, power(f.Bits).Num)
	}
	text := ""
	for range f.Bits {
		half, rest := byhand.Divide(value, "2")
		text = rest + text
		value = half
	}
	return text
}

// reversed is a list in the other order.
func reversed(list []int) []int {
	var other []int
	for _, n := range list {
		other = append([]int{n}, other...)
	}
	return other
}

func describe(f api.FixedForm) string {
	words := []string{strconv.Itoa(f.Bits) + " Bits", "Frac " + strconv.Itoa(f.Frac)}
	if f.Signed {
		words = append(words, "Signed")
	}
	if f.Round != 0 {
		words = append(words, "Round "+strconv.Itoa(f.Round))
	}
	if f.Over != 0 {
		words = append(words, "Over "+strconv.Itoa(f.Over))
	}
	return strings.Join(words, ", ")
}
