package affine

import (
	"cmp"
	"maps"
	"slices"
	"testing"

	"metewand/api"
	"metewand/internal/byhand"
	"metewand/internal/exact"
	"metewand/internal/failure"
)

func whole(n int) api.Rat { return byhand.Reduced(exact.Whole(n).Text(), "1") }

// TestNoises compares with maps.
func TestNoises(t *testing.T) {
	seed := byhand.Chance(301)
	draw := func() (noises, map[int]bool) {
		s, in := noNoise, map[int]bool{}
		for range seed.Below(20) {
			noise := 1 + seed.Below(api.AffineNoise)
			s, in[noise] = s.with(noise), true
			if seed.Below(4) == 0 {
				s = s.without(noise)
				delete(in, noise)
			}
		}
		return s, in
	}
	listed := func(s noises) []int { return slices.Collect(s.each()) }
	for range 300 {
		s, in := draw()
		r, other := draw()
		var common, union, less []int
		for noise := 1; noise <= api.AffineNoise; noise++ {
			if s.has(noise) != in[noise] {
				t.Fatal(listed(s), noise)
			}
			if in[noise] && other[noise] {
				common = append(common, noise)
			}
			if in[noise] || other[noise] {
				union = append(union, noise)
			}
			if in[noise] && !other[noise] {
				less = append(less, noise)
			}
		}
		if !slices.Equal(listed(s), slices.Sorted(maps.Keys(in))) || !slices.Equal(listed(s.common(r)), common) || !slices.Equal(listed(s.union(r)), union) || !slices.Equal(listed(s.less(r)), less) {
			t.Fatal(listed(s), listed(r))
		}
	}
	all := noNoise
	for noise := range api.AffineNoise {
		all = all.with(noise + 1)
	}
	if list := listed(all); len(list) != api.AffineNoise || list[0] != 1 || list[29] != 30 {
		t.Error(list)
	}
}

// TestEachLeft: an iterator that is left goes no further.
func TestEachLeft(t *testing.T) {
	for noise := range noNoise.with(3).with(7).each() {
		if noise != 3 {
			t.Error(noise)
		}
		break
	}
	d := draft{noises: noNoise.with(1).with(2).with(3)}
	d.sizes[2], d.sizes[3] = exact.One(), exact.One()
	for noise, size := range d.terms() {
		if noise != 2 || size.Compare(exact.One()) != 0 {
			t.Error(noise, size.Text())
		}
		break
	}
	// What is wrong with a term behind it is not looked at.
	for noise := range checked([]api.AffineTerm{{Noise: 4, Size: whole(1)}, {Noise: 99}}, checkCounts) {
		if noise != 4 {
			t.Error(noise)
		}
		break
	}
}

// TestRanking compares with a stable sort.
func TestRanking(t *testing.T) {
	seed := byhand.Chance(302)
	type thing struct{ rank, name int }
	compare := func(a, b thing) int { return cmp.Compare(a.rank, b.rank) }
	for range 200 {
		r := &ranking[thing]{compare: compare}
		var want []thing
		for i := range seed.Below(9) {
			x := thing{seed.Below(4), i}
			want = append(want, x)
			if !r.put(x) {
				t.Error(x)
			}
		}
		slices.SortStableFunc(want, compare)
		for many := range 11 {
			size := min(many, len(want))
			if got := r.first(many); !slices.Equal(got, want[:size]) || cap(got) != size {
				t.Fatal(got, want, many)
			}
		}
	}
}

// TestSideBySide: the numbers come in the order of the works, and a fault is an error.
func TestSideBySide(t *testing.T) {
	number := func(n int) func() exact.Rat { return func() exact.Rat { return exact.Whole(n) } }
	for range 100 {
		for i, x := range sideBySide(number(0), number(1), number(2)) {
			if x.Compare(exact.Whole(i)) != 0 {
				t.Fatal(i, x.Text())
			}
		}
	}
	for want, work := range map[api.Errno]func() exact.Rat{api.ErrLimit: func() exact.Rat { panic("x") }, api.ErrLarge: func() exact.Rat { failure.Throw(api.ErrLarge); return exact.One() }} {
		if got, e := made(func() draft { return draft{mid: sideBySide(number(7), work)[0]} }); e != want || got.Mid != (api.Rat{}) {
			t.Error(got, e)
		}
	}
}

func TestAdded(t *testing.T) {
	if got := added(exact.Rat.Plus, exact.Whole(1), exact.Whole(2), exact.Whole(-7)); got.Text() != "-4" {
		t.Error(got.Text())
	}
	if got := added(noises.with, noNoise); got != noNoise {
		t.Error(got)
	}
	if got := added(noises.with, noNoise.with(2), 1, 30); !slices.Equal(slices.Collect(got.each()), []int{1, 2, 30}) {
		t.Error(got)
	}
}

// TestMinusAlike: forms with the same Sizes have a difference without noises, others do not.
func TestMinusAlike(t *testing.T) {
	of := func(mid int, sizes ...int) form {
		a := api.Affine{Mid: whole(mid)}
		for i, size := range sizes {
			a.Terms = append(a.Terms, api.AffineTerm{Noise: i + 1, Size: whole(size)})
		}
		return valid(a)
	}
	if d := of(5, 1, 2).minus(of(7, 1, 2)); d.noises != noNoise || d.mid.Text() != "-2" {
		t.Error(d.noises, d.mid.Text())
	}
	for _, g := range []form{of(7, 1), of(7, 1, 3), of(7, 1, 2, 3), of(7)} {
		if d := of(5, 1, 2).minus(g); d.radius().IsZero() {
			t.Error(g.Terms)
		}
	}
}

// TestDraftsStay: what is made of a draft leaves it as it is.
func TestDraftsStay(t *testing.T) {
	d := draft{mid: exact.One(), noises: noNoise.with(1)}
	d.sizes[1] = exact.Whole(2)
	e := draft{mid: exact.Whole(5)}.extended(newNoise(2, exact.Whole(3)))
	d.scaled(exact.Whole(7))
	d.shifted(exact.Whole(7))
	d.joined(e, exact.Rat.Minus)
	d.only(noNoise)
	d.extended(newNoise(9, exact.One()))
	d.times(e)
	if got, code := made(func() draft { return d }); code != api.OK || got.Mid != whole(1) || !slices.Equal(got.Terms, []api.AffineTerm{{Noise: 1, Size: whole(2)}}) {
		t.Error(got, code)
	}
}
