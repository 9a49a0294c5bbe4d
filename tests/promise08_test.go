package tests

import (
	"slices"
	"testing"

	"loop.example/g01219/impl"
)

// TestPromise8 checks that known spaces have the Betti numbers that are told of them: spheres have 1 in the degrees 0
// and n alone, projective spaces of k and c in the degrees 0, c, .., k c, and tori those of choices.
func TestPromise8(t *testing.T) {
	for _, s := range madeSpaces() {
		a := s.algebra(t)
		for m := range int64(impl.MaxAsked + 1) {
			if got, code := impl.BettiNumbers(a, m); !slices.Equal(got, s.bettiUpTo(m)) || code != impl.ErrNone {
				t.Errorf("BettiNumbers of %s and %d = %v, %d, not %v", s.name, m, got, code, s.bettiUpTo(m))
			}
		}
		for n, want := range s.bettiUpTo(impl.MaxAsked) {
			if got := classForms(t, a, int64(n)); int64(len(got)) != want {
				t.Errorf("%s has %d class forms of the degree %d, not %d", s.name, len(got), n, want)
			}
			if got := bettiByWords(a, int64(n)); int64(got) != want {
				t.Errorf("%s has the Betti number %d of the degree %d, not %d", s.name, got, n, want)
			}
		}
	}
}

// TestPromise8FreeSeries checks that tori and unitary groups have the Betti numbers of the free series of their degrees,
// and so have spheres of odd n.
func TestPromise8FreeSeries(t *testing.T) {
	for _, s := range slices.Concat(tori(), unitaryGroups(), spheres()) {
		a := s.algebra(t)
		if slices.ContainsFunc(a.Degrees, func(n int64) bool { return n%2 == 0 }) {
			continue
		}
		for _, m := range []int64{0, 1, 7, 8, 9, impl.MaxAsked} {
			series, one := impl.FreeSeries(a.Degrees, m)
			betti, two := impl.BettiNumbers(a, m)
			if one != impl.ErrNone || two != impl.ErrNone || int64(len(series)) != m+1 || !slices.Equal(series, betti) {
				t.Errorf("%s has the free series %v, %d, and the Betti numbers %v, %d", s.name, series, one, betti, two)
			}
		}
	}
}

// TestPromise8Products checks that the powers of the generator of a projective space are classes as long as there are
// Betti numbers, and that the generators of a torus have a product other than 0.
func TestPromise8Products(t *testing.T) {
	for _, s := range slices.Concat(projectiveSpaces(), tori(), spheres()) {
		a := s.algebra(t)
		want := int64(0)
		for _, betti := range s.betti[1:] {
			want += min(betti, 1)
		}
		if got, code := impl.LengthOfProducts(a, impl.MaxAsked); got != want || code != impl.ErrNone {
			t.Errorf("LengthOfProducts of %s = %d, %d, not %d", s.name, got, code, want)
		}
	}
}
