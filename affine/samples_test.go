package affine_test

import (
	"maps"
	"math"
	"slices"
	"strconv"
	"strings"
	"testing"

	"metewand/api"
	"metewand/internal/byhand"
	"metewand/internal/outcome"
)

var nines, tens, over = byhand.Limits()

var (
	compare = byhand.Order
	plus    = byhand.Sum
	minus   = byhand.Difference
	times   = byhand.Product
	divided = byhand.Quotient
)

func amount(x api.Rat) api.Rat { return api.Rat{Num: byhand.Amount(x.Num), Den: x.Den} }

// model is a form by hand, the numbers of which may be of any size.
type model struct {
	mid   api.Rat
	sizes map[int]api.Rat // of noises
}

func modelOf(f api.Affine) model {
	m := model{f.Mid, map[int]api.Rat{}}
	for _, term := range f.Terms {
		m.sizes[term.Noise] = term.Size
	}
	return m
}

// size returns 0 if there is no term.
func (m model) size(noise int) api.Rat {
	if size, is := m.sizes[noise]; is {
		return size
	}
	return q("0")
}

func (m model) radius() api.Rat {
	sum := q("0")
	for _, size := range m.sizes {
		sum = plus(sum, amount(size))
	}
	return sum
}

func (m model) span() api.Enclosure {
	radius := m.radius()
	return api.Enclosure{Lo: minus(m.mid, radius), Hi: plus(m.mid, radius)}
}

// with returns the form that has a number for each noise of two forms, and a number for a new noise.
func with(mid api.Rat, m, n model, size func(noise int) api.Rat, noise int, extra api.Rat) model {
	result := model{mid, map[int]api.Rat{}}
	for i := 1; i <= api.AffineNoise; i++ {
		_, has := m.sizes[i]
		_, hasToo := n.sizes[i]
		if has || hasToo {
			result.sizes[i] = size(i)
		}
	}
	if extra.Num != "0" {
		result.sizes[noise] = extra
	}
	return result
}

// form returns the form as plain data, whether it is valid or not.
func (m model) form() api.Affine {
	f := api.Affine{Mid: m.mid}
	for _, noise := range slices.Sorted(maps.Keys(m.sizes)) {
		if size := m.sizes[noise]; size.Num != "0" {
			f.Terms = append(f.Terms, api.AffineTerm{Noise: noise, Size: size})
		}
	}
	return f
}

func same(f, g api.Affine) bool { return f.Mid == g.Mid && slices.Equal(f.Terms, g.Terms) }

// due reports a form that is not the one by hand, or an error unless this has numbers that are too large, or too many terms.
func due(t *testing.T, m model, got api.Affine, e api.Errno) {
	t.Helper()
	want, wanted := m.form(), api.OK
	if len(want.Terms) > api.AffineTerms {
		wanted = api.ErrMany
	}
	for _, term := range append(want.Terms, api.AffineTerm{Size: want.Mid}) {
		if !byhand.Fits(term.Size) {
			wanted = api.ErrLarge
		}
	}
	if wanted != api.OK {
		want = api.Affine{}
	}
	if e != wanted || !same(got, want) {
		t.Fatal("got", preview(got), outcome.Name(e), "want", preview(want), outcome.Name(wanted))
	}
}

// dueNumber does so for a number.
func dueNumber(t *testing.T, want, got api.Rat, e api.Errno) {
	t.Helper()
	due(t, model{mid: want}, api.Affine{Mid: got}, e)
}

func preview(f api.Affine) string {
	words := []string{byhand.PreviewRat(f.Mid)}
	for _, term := range f.Terms {
		words = append(words, byhand.PreviewRat(term.Size)+"@"+strconv.Itoa(term.Noise))
	}
	return strings.Join(words, ", ")
}

// get returns a function that returns a form, or ends the test if there is an error.
func get(t *testing.T) func(f api.Affine, e api.Errno) api.Affine {
	return outcome.Must[api.Affine](t)
}

// sample is how random forms look.
type sample struct {
	byhand.Chance
	digits int // of some numbers, at most; 0: all are small
}

// kinds are the samples that the tests try. The numbers on the way to results are within the limit with the first three, and some of the results with the fourth one.
func kinds(seed byhand.Chance) []*sample {
	return []*sample{{seed, 0}, {seed + 1, 0}, {seed + 2, 12}, {seed + 3, 100}}
}

func (s *sample) rat() api.Rat { return s.Rat(s.digits) }

// some returns so many noises, ascending, which are often the first ones.
func (s *sample) some(many int) []int {
	last := api.AffineNoise
	if s.Below(3) > 0 {
		last = max(8, many)
	}
	set := map[int]bool{}
	for len(set) < many {
		set[1+s.Below(last)] = true
	}
	return slices.Sorted(maps.Keys(set))
}

// small returns a form with at most so many terms.
func (s *sample) small(most int) api.Affine {
	f := api.Affine{Mid: s.rat()}
	for _, noise := range s.some(s.Below(most + 1)) {
		size := s.rat()
		for size.Num == "0" {
			size = s.rat()
		}
		f.Terms = append(f.Terms, api.AffineTerm{Noise: noise, Size: size})
	}
	return f
}

func (s *sample) form() api.Affine { return s.small(api.AffineTerms) }

// pair returns two forms, which often have much in common.
func (s *sample) pair() (f, g api.Affine) {
	f, g = s.small(1+s.Below(api.AffineTerms)), s.small(1+s.Below(api.AffineTerms))
	switch s.Below(6) {
	case 0:
		g = f
	case 1:
		g = api.Affine{Mid: g.Mid, Terms: f.Terms}
	case 2: // the sum has less terms
		for _, term := range f.Terms {
			i := slices.IndexFunc(g.Terms, func(x api.AffineTerm) bool { return x.Noise == term.Noise })
			if i >= 0 {
				g.Terms[i].Size = byhand.Negated(term.Size)
			}
		}
	}
	return f, g
}

// fresh returns a noise that some forms do not have.
func (s *sample) fresh(forms ...api.Affine) int {
	taken := map[int]bool{}
	for _, f := range forms {
		for _, term := range f.Terms {
			taken[term.Noise] = true
		}
	}
	noise := 1 + s.Below(api.AffineNoise)
	for taken[noise] {
		noise = 1 + s.Below(api.AffineNoise)
	}
	return noise
}

// between returns a number from -1 to 1.
func (s *sample) between() api.Rat {
	den := 1 + s.Below(7)
	return byhand.Reduced(strconv.Itoa(s.Below(2*den+1)-den), strconv.Itoa(den))
}

// setting returns the values of some noises.
func (s *sample) setting() []api.AffineTerm {
	var set []api.AffineTerm
	for _, noise := range s.some(s.Below(api.AffineNoise)) {
		set = append(set, api.AffineTerm{Noise: noise, Size: s.between()})
	}
	return set
}

// at returns the setting in which a noise has another value.
func at(set []api.AffineTerm, noise int, value api.Rat) []api.AffineTerm {
	m := modelOf(api.Affine{Terms: set})
	m.sizes[noise] = value
	var all []api.AffineTerm
	for _, noise := range slices.Sorted(maps.Keys(m.sizes)) {
		all = append(all, api.AffineTerm{Noise: noise, Size: m.sizes[noise]})
	}
	return all
}

// corners goes through the settings under which each noise of some forms has the value -1 or 1.
func corners(forms ...api.Affine) [][]api.AffineTerm {
	noises := map[int]bool{}
	for _, f := range forms {
		for _, term := range f.Terms {
			noises[term.Noise] = true
		}
	}
	all := [][]api.AffineTerm{nil}
	for _, noise := range slices.Sorted(maps.Keys(noises)) {
		var next [][]api.AffineTerm
		for _, set := range all {
			for _, value := range []string{"-1", "1"} {
				next = append(next, at(set, noise, q(value)))
			}
		}
		all = next
	}
	return all
}

// value returns the value under a setting.
func (m model) value(set []api.AffineTerm) api.Rat {
	sum := m.mid
	for _, term := range set {
		sum = plus(sum, times(m.size(term.Noise), term.Size))
	}
	return sum
}

// odd are numbers of noises, and others.
func odd() []int { return []int{math.MinInt, -1, 0, 31, 32, 33, 64, math.MaxInt} }
