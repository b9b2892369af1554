package unit

import (
	"slices"
	"testing"

	"metewand/api"
	"metewand/internal/exact"
)

// TestFactorsIn: the factors end where their reader does, and where the text does.
func TestFactorsIn(t *testing.T) {
	var words []string
	for f := range factorsIn("1/m s^2/kg!") {
		words = append(words, f.word)
		if len(words) == 2 {
			break
		}
	}
	if !slices.Equal(words, []string{"m", "s"}) {
		t.Error(words)
	}
	factors := factorsIn("1/m s^-2/kg^3")
	for range 2 {
		if got := slices.Collect(factors); !slices.Equal(got, []factor{{"m", -1}, {"s", -2}, {"kg", -3}}) {
			t.Error(got)
		}
	}
	if got := slices.Collect(factorsIn("1")); len(got) > 0 {
		t.Error(got)
	}
}

// TestStages: only letters go on as they are, and nothing follows nonsense.
func TestStages(t *testing.T) {
	for s := nothing; s <= nonsense; s++ {
		for b := range 256 {
			next := s.after(byte(b))
			if next == s && s != letter && s != nonsense || s == nonsense && next != s {
				t.Error(s, b, next)
			}
		}
		if s.mayEnd() != (s == unity || s == letter || s == digit) {
			t.Error(s)
		}
	}
}

// TestSpelling: no text of a factor is shorter than those that are looked at, in front and behind another one.
func TestSpelling(t *testing.T) {
	for exp := range exponents() {
		f := factor{"m", exp}
		for _, text := range []string{f.front(), "s" + f.behind()} {
			factors := slices.Collect(factorsIn(text))
			if factors[len(factors)-1] != f {
				t.Error(text, factors)
			}
		}
		for _, other := range []string{"m", "m^1", "m^2", "m^3", "m^-1", "m^-2", "m^-3"} {
			for _, front := range []string{"", "1/"} {
				if text := front + other; slices.Collect(factorsIn(text))[0] == f && len(text) < len(f.front()) {
					t.Error(text, f.front())
				}
			}
			for _, mark := range []string{" ", "/"} {
				if text := mark + other; slices.Collect(factorsIn("s" + text))[1] == f && len(text) < len(f.behind()) {
					t.Error(text, f.behind())
				}
			}
		}
	}
}

func TestExponents(t *testing.T) {
	if got := slices.Collect(exponents()); !slices.Equal(got, []int{1, -1, 2, -2, 3, -3}) {
		t.Error(got)
	}
	n := 0
	for exp := range exponents() {
		n += exp
		if exp < 0 {
			break
		}
	}
	if n != 0 {
		t.Error(n)
	}
}

// TestBest keeps what is shorter, then what has fewer factors, then what is less.
func TestBest(t *testing.T) {
	order := []candidate{{"1", 0}, {"z", 1}, {"abc", 1}, {"b c", 1}, {"B c", 2}, {"a b", 2}, {"a/b", 2}, {"aaaa", 1}}
	for i, x := range order {
		for j, y := range order {
			var b best[candidate]
			b.offer(x)
			b.offer(y)
			if b.kept != order[min(i, j)] || x.before(y) != (i < j) {
				t.Error(x, y, b.kept)
			}
		}
	}
}

// TestWords has words that stand for another entry, and words that are too long.
func TestWords(t *testing.T) {
	one, two, three := api.Rat{Num: "1", Den: "1"}, api.Rat{Num: "2", Den: "1"}, api.Rat{Num: "3", Den: "1"}
	b := api.UnitBook{
		Prefixes: []api.UnitPrefix{{Name: "abcdef", Factor: two}, {Name: "k", Factor: two}, {Name: "kk", Factor: three}, {Name: "abc", Factor: two}},
		Entries:  []api.UnitEntry{{Name: "m", Factor: three, Offset: api.Rat{Num: "0", Den: "1"}, Prefixed: 1, Until: 9}, {Name: "km", Factor: one, Offset: api.Rat{Num: "0", Den: "1"}, Prefixed: 1, Until: 9}, {Name: "xyzx", Factor: one, Offset: api.Rat{Num: "0", Den: "1"}, Until: 9, Prefixed: 1}},
	}
	r := at(valid(b), 0)
	for entry, want := range [][]string{{"m", "3", "abcm", "6"}, {"km", "1", "kkm", "2", "kkkm", "3", "abckm", "2"}, {"xyzx", "1", "kxyzx", "2", "kkxyzx", "3"}} {
		var got []string
		for word, size := range r.words(entry) {
			got = append(got, word, size.Text())
		}
		if !slices.Equal(got, want) {
			t.Error(got, want)
		}
		for range r.words(entry) {
			break
		}
	}
}

func TestRaised(t *testing.T) {
	x := exact.Of(api.Rat{Num: "2", Den: "3"})
	for exp, want := range map[int]string{0: "1", 1: "2/3", 3: "8/27", -1: "3/2", -2: "9/4", 9: "512/19683"} {
		if got := raised(x, exp).Text(); got != want {
			t.Error(exp, got)
		}
	}
}
