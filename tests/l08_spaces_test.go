package tests

import (
	"math"
	"slices"
	"testing"

	"loop.example/g01219/impl"
)

// TestMadeSpaces compares each known space with its text, and its degrees and images with each other.
func TestMadeSpaces(t *testing.T) {
	list := madeSpaces()
	if len(list) != 9+7+6+9+3 {
		t.Fatalf("there are %d spaces", len(list))
	}
	for _, s := range list {
		a, code := s.call()
		if code != impl.ErrNone || !impl.IsAlgebra(a) || !sameAlgebras(a, algebra(t, s.text)) {
			t.Errorf("%s is %v, %d, not %q", s.name, a, code, s.text)
		}
		if text, code := impl.AlgebraText(a); text != s.text || code != impl.ErrNone {
			t.Errorf("%s has the text %q, %d, not %q", s.name, text, code, s.text)
		}
		if minimal, code := impl.IsMinimal(a); !minimal || code != impl.ErrNone {
			t.Errorf("%s is not minimal: %d", s.name, code)
		}
	}
}

// TestNumbersOfSpaces goes through all numbers next to those that tell a space, and others that do not.
func TestNumbersOfSpaces(t *testing.T) {
	for _, c := range []struct {
		name  string
		make  func(n int64) (impl.Algebra, int64)
		tells []int64
	}{
		{"SphereModel", impl.SphereModel, []int64{1, 2, 3, 4, 5, 6, 7, 9, 11}},
		{"UnitaryModel", impl.UnitaryModel, []int64{1, 2, 3, 4, 5, 6}},
		{"TorusModel", impl.TorusModel, []int64{0, 1, 2, 3, 4, 5, 6, 7, 8}},
		{"HeisenbergModel", impl.HeisenbergModel, []int64{1, 2, 3}},
		{"ProjectiveModel of c = 2", projectiveOf(2), []int64{1, 2, 3, 4, 5}},
		{"ProjectiveModel of c = 4", projectiveOf(4), []int64{1, 2}},
		{"ProjectiveModel of c = 0", projectiveOf(0), nil},
		{"ProjectiveModel of c = -1", projectiveOf(-1), nil},
		{"ProjectiveModel of c = -2", projectiveOf(-2), nil},
		{"ProjectiveModel of c = 1", projectiveOf(1), nil},
		{"ProjectiveModel of c = 3", projectiveOf(3), nil},
		{"ProjectiveModel of c = 5", projectiveOf(5), nil},
		{"ProjectiveModel of c = 6", projectiveOf(6), nil},
		{"ProjectiveModel of c = 8", projectiveOf(8), nil},
		{"ProjectiveModel of the least c", projectiveOf(math.MinInt64), nil},
		{"ProjectiveModel of the greatest c", projectiveOf(math.MaxInt64), nil},
	} {
		numbers := []int64{math.MinInt64, math.MinInt64 + 1, math.MaxInt64, math.MaxInt64 - 1, 257, 258, 1 << 32, 1<<32 + 1}
		for n := int64(-20); n <= 40; n++ {
			numbers = append(numbers, n)
		}
		for _, n := range numbers {
			a, code := c.make(n)
			if slices.Contains(c.tells, n) {
				if code != impl.ErrNone || len(a.Degrees) == 0 && n != 0 {
					t.Errorf("%s, %d = %v, %d", c.name, n, a, code)
				}
			} else if !isZeroAlgebra(a) || code != impl.ErrRange {
				t.Errorf("%s, %d = %v, %d, not the code %d", c.name, n, a, code, impl.ErrRange)
			}
		}
	}
}

// projectiveOf returns ProjectiveModel of one c.
func projectiveOf(c int64) func(k int64) (impl.Algebra, int64) {
	return func(k int64) (impl.Algebra, int64) { return impl.ProjectiveModel(k, c) }
}

// TestSpacesTwice has the spaces that are both spheres, projective spaces, groups or tori.
func TestSpacesTwice(t *testing.T) {
	for _, c := range []struct {
		name       string
		one, other func() (impl.Algebra, int64)
	}{
		{"the sphere of 2", func() (impl.Algebra, int64) { return impl.SphereModel(2) }, func() (impl.Algebra, int64) { return impl.ProjectiveModel(1, 2) }},
		{"the sphere of 4", func() (impl.Algebra, int64) { return impl.SphereModel(4) }, func() (impl.Algebra, int64) { return impl.ProjectiveModel(1, 4) }},
		{"the circle", func() (impl.Algebra, int64) { return impl.SphereModel(1) }, func() (impl.Algebra, int64) { return impl.TorusModel(1) }},
		{"the unitary group of 1", func() (impl.Algebra, int64) { return impl.UnitaryModel(1) }, func() (impl.Algebra, int64) { return impl.TorusModel(1) }},
	} {
		a, one := c.one()
		b, two := c.other()
		if one != impl.ErrNone || two != impl.ErrNone || len(a.Degrees) == 0 || !sameAlgebras(a, b) {
			t.Errorf("%s is %v, %d and %v, %d", c.name, a, one, b, two)
		}
	}
}

// TestHigherSpheres checks that the sphere of n has its two generators where n is even, and one where it is odd.
func TestHigherSpheres(t *testing.T) {
	for n := int64(1); n <= 12; n++ {
		a, code := impl.SphereModel(n)
		switch {
		case n%2 == 1:
			if code != impl.ErrNone || !slices.Equal(a.Degrees, []int64{n}) || len(a.Images) != 1 || len(a.Images[0].Terms) != 0 {
				t.Errorf("SphereModel(%d) = %v, %d", n, a, code)
			}
		case n <= 6:
			if code != impl.ErrNone || !slices.Equal(a.Degrees, []int64{n, 2*n - 1}) || len(a.Images[0].Terms) != 0 || !sameForms(a.Images[1], formOf(term(1, 2))) {
				t.Errorf("SphereModel(%d) = %v, %d", n, a, code)
			}
		case !isZeroAlgebra(a) || code != impl.ErrRange:
			t.Errorf("SphereModel(%d) = %v, %d", n, a, code)
		}
	}
}
