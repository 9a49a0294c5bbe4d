package tests

import (
	"math"
	"math/rand"
	"slices"
	"testing"

	"loop.example/g01219/impl"
)

func TestIdentityMap(t *testing.T) {
	for _, a := range goodAlgebras(t) {
		got, code := impl.IdentityMap(a)
		if !sameFormLists(got, identityForms(a)) || code != impl.ErrNone || !impl.IsMap(a, a, got) {
			t.Errorf("IdentityMap(%v) = %v, %d", a, got, code)
		}
		f := randomForm(rand.New(rand.NewSource(83)), a.Degrees, 5, 20)
		if image := applied(t, mapping{a, a, got}, f); !sameForms(image, f) {
			t.Errorf("the identity of %v leads %v to %v", a, f, image)
		}
	}
}

func TestInclusionsAndProjections(t *testing.T) {
	cases := []struct {
		a, b                   string
		second                 bool
		inclusion, projections []string
	}{
		{"", "", false, nil, nil},
		{"", "", true, nil, nil},
		{"2:0;3:1*a2", "", false, []string{"1*a", "1*b"}, []string{"1*a", "1*b"}},
		{"2:0;3:1*a2", "", true, nil, []string{"0", "0"}},
		{"", "2:0;3:1*a2", false, nil, []string{"0", "0"}},
		{"", "2:0;3:1*a2", true, []string{"1*a", "1*b"}, []string{"1*a", "1*b"}},
		{"2:0;3:1*a2", "3:0", false, []string{"1*a", "1*b"}, []string{"1*a", "1*b", "0"}},
		{"2:0;3:1*a2", "3:0", true, []string{"1*c"}, []string{"0", "0", "1*a"}},
		{"3:0", "2:0;3:1*a2", false, []string{"1*a"}, []string{"1*a", "0", "0"}},
		{"3:0", "2:0;3:1*a2", true, []string{"1*b", "1*c"}, []string{"0", "1*a", "1*b"}},
		{"1:0;1:0;1:1*ab", "1:1*b;2:0", true, []string{"1*d", "1*e"}, []string{"0", "0", "0", "1*a", "1*b"}},
		{"1:0;1:0;1:0;1:0", "1:0;1:0;1:1*ab;1:1*ac", true, []string{"1*e", "1*f", "1*g", "1*h"}, []string{"0", "0", "0", "0", "1*a", "1*b", "1*c", "1*d"}},
		{"1:0;1:0;1:0;1:0;1:0;1:0;1:0", "12:0", false, []string{"1*a", "1*b", "1*c", "1*d", "1*e", "1*f", "1*g"}, []string{"1*a", "1*b", "1*c", "1*d", "1*e", "1*f", "1*g", "0"}},
		{"12:0", "1:0;1:0;1:0;1:0;1:0;1:0;1:0", false, []string{"1*a"}, []string{"1*a", "0", "0", "0", "0", "0", "0", "0"}},
	}
	for _, c := range cases {
		a, b := algebra(t, c.a), algebra(t, c.b)
		product, _ := impl.ProductOfAlgebras(a, b)
		part := a
		if c.second {
			part = b
		}
		got, code := impl.InclusionOf(a, b, c.second)
		if !sameFormLists(got, parseAll(t, product.Degrees, c.inclusion)) || code != impl.ErrNone || !impl.IsMap(part, product, got) {
			t.Errorf("InclusionOf(%q, %q, %v) = %v, %d", c.a, c.b, c.second, got, code)
		}
		got, code = impl.ProjectionOf(a, b, c.second)
		if !sameFormLists(got, parseAll(t, part.Degrees, c.projections)) || code != impl.ErrNone || !impl.IsMap(product, part, got) {
			t.Errorf("ProjectionOf(%q, %q, %v) = %v, %d", c.a, c.b, c.second, got, code)
		}
	}
}

func TestProductsWithTooManyGenerators(t *testing.T) {
	const seven, ones = "1:0;1:0;1:0;1:0;1:0;1:0;1:0", "1:0;1:0;1:0;1:0;1:0;1:0;1:0;1:0"
	for _, c := range []struct {
		a, b string
		code int64
	}{
		{ones, "", impl.ErrNone},
		{"", ones, impl.ErrNone},
		{seven, "2:0", impl.ErrNone},
		{ones, "2:0", impl.ErrLimit},
		{"2:0", ones, impl.ErrLimit},
		{seven, "2:0;3:1*a2", impl.ErrLimit},
		{ones, ones, impl.ErrLimit},
	} {
		a, b := algebra(t, c.a), algebra(t, c.b)
		for _, second := range []bool{false, true} {
			got, code := impl.InclusionOf(a, b, second)
			if code != c.code || code != impl.ErrNone && len(got) != 0 {
				t.Errorf("InclusionOf(%q, %q, %v) = %v, %d", c.a, c.b, second, got, code)
			}
			got, code = impl.ProjectionOf(a, b, second)
			if code != c.code || code != impl.ErrNone && len(got) != 0 {
				t.Errorf("ProjectionOf(%q, %q, %v) = %v, %d", c.a, c.b, second, got, code)
			}
		}
	}
}

// gradingCase has the factors of the generators, nil beside an error.
type gradingCase struct {
	algebra string
	weights []int64
	k       int64
	want    []int64
	code    int64
}

func gradingCases() []gradingCase {
	const sphere, heisenberg = "2:0;3:1*a2", "1:0;1:0;1:1*ab"
	return []gradingCase{
		{"", nil, 1, nil, impl.ErrNone},
		{"", nil, 10006, nil, impl.ErrNone},
		{"", nil, 0, nil, impl.ErrRange},
		{"", nil, 10007, nil, impl.ErrRange},
		{"", []int64{0}, 1, nil, impl.ErrRange},
		{sphere, []int64{1, 2}, 3, []int64{3, 9}, impl.ErrNone},
		{sphere, []int64{0, 0}, 3, []int64{1, 1}, impl.ErrNone},
		{sphere, []int64{500, 1000}, 2, []int64{powerOf(2, 500), powerOf(2, 1000)}, impl.ErrNone},
		{sphere, []int64{1, 2}, 10006, []int64{10006, 1}, impl.ErrNone},
		{sphere, []int64{5, 1000}, 10006, []int64{10006, 1}, impl.ErrNone},
		{sphere, []int64{7, 1000}, 1, []int64{1, 1}, impl.ErrNone},
		{sphere, []int64{1, 1}, 10006, nil, impl.ErrState},
		{sphere, []int64{1, 1}, 2, nil, impl.ErrState},
		{sphere, []int64{1, 3}, 3, nil, impl.ErrState},
		{sphere, []int64{0, 1}, 10006, nil, impl.ErrState},
		{sphere, []int64{501, 1000}, 2, nil, impl.ErrState},
		{sphere, []int64{501, 1002}, 2, nil, impl.ErrRange},
		{sphere, []int64{-1, 2}, 2, nil, impl.ErrRange},
		{sphere, []int64{1, -2}, 2, nil, impl.ErrRange},
		{sphere, []int64{1, math.MinInt64}, 2, nil, impl.ErrRange},
		{sphere, []int64{math.MaxInt64, 1}, 1, nil, impl.ErrRange},
		{sphere, []int64{1}, 2, nil, impl.ErrRange},
		{sphere, nil, 2, nil, impl.ErrRange},
		{sphere, []int64{1, 2, 0}, 2, nil, impl.ErrRange},
		{sphere, []int64{1, 2}, 0, nil, impl.ErrRange},
		{sphere, []int64{1, 2}, -1, nil, impl.ErrRange},
		{sphere, []int64{1, 2}, 10007, nil, impl.ErrRange},
		{sphere, []int64{1, 2}, math.MaxInt64, nil, impl.ErrRange},
		{sphere, []int64{1, 2}, math.MinInt64, nil, impl.ErrRange},
		{sphere, []int64{1, 3}, 10007, nil, impl.ErrRange},
		{sphere, []int64{1001, 3}, 2, nil, impl.ErrRange},
		{"3:0", []int64{1000}, 10006, []int64{1}, impl.ErrNone},
		{"3:0", []int64{1000}, 10005, []int64{powerOf(2, 1000)}, impl.ErrNone},
		{"3:0", []int64{1001}, 2, nil, impl.ErrRange},
		{"3:1*b2;2:0", []int64{4, 2}, 5, []int64{625, 25}, impl.ErrNone},
		{heisenberg, []int64{1, 2, 3}, 7, []int64{7, 49, 343}, impl.ErrNone},
		{heisenberg, []int64{1, 2, 4}, 7, nil, impl.ErrState},
		{"4:5*b;5:0", []int64{3, 3}, 2, []int64{8, 8}, impl.ErrNone},
		{"4:5*b;5:0", []int64{3, 4}, 2, nil, impl.ErrState},
		{"2:0;2:0;3:1*a2+1*b2", []int64{1, 1, 2}, 2, []int64{2, 2, 4}, impl.ErrNone},
		{"2:0;2:0;3:1*a2+1*b2", []int64{1, 2, 2}, 2, nil, impl.ErrState},
		{"2:0;2:0;3:1*a2+1*b2", []int64{1, 2, 4}, 2, nil, impl.ErrState},
		{"2:0;2:0;3:1*a2+1*b2", []int64{1, 0, 4}, 10006, []int64{10006, 1, 1}, impl.ErrNone},
	}
}

// powerOf returns the power n of a number of the field, made step by step.
func powerOf(x int64, n int) int64 {
	product := int64(1)
	for range n {
		product = product * x % impl.FieldPrime
	}
	return product
}

func TestGradingMap(t *testing.T) {
	for _, c := range gradingCases() {
		a := algebra(t, c.algebra)
		var want []impl.Form
		for i, factor := range c.want {
			want = append(want, generator(i, factor))
		}
		got, code := impl.GradingMap(a, c.weights, c.k)
		if !sameFormLists(got, want) || code != c.code || code == impl.ErrNone && !impl.IsMap(a, a, got) {
			t.Errorf("GradingMap(%q, %v, %d) = %v, %d", c.algebra, c.weights, c.k, got, code)
		}
	}
	for _, a := range badAlgebras(t) {
		for _, k := range []int64{0, 1, 5, 10007} {
			for _, weights := range [][]int64{nil, make([]int64, len(a.Degrees)), {-1}} {
				if got, code := impl.GradingMap(a, weights, k); len(got) != 0 || code != impl.ErrInvalid {
					t.Errorf("GradingMap(%v, %v, %d) = %v, %d", a, weights, k, got, code)
				}
			}
		}
	}
}

// TestGradingsByWords takes random weights: a grading is a map
// if all monomials of each image have the weight of the generator.
func TestGradingsByWords(t *testing.T) {
	r := rand.New(rand.NewSource(84))
	codes := map[int64]int{}
	for range 2000 {
		a := randomAlgebra(t, r, 6)
		weights := make([]int64, len(a.Degrees))
		for i := range weights {
			weights[i] = r.Int63n(3)
		}
		k := 1 + r.Int63n(100)
		want := int64(impl.ErrNone)
		for i, f := range a.Images {
			for _, x := range f.Terms {
				sum := int64(0)
				for _, j := range wordOf(x.Monomial) {
					sum += weights[j]
				}
				if powerOf(k, int(sum)) != powerOf(k, int(weights[i])) {
					want = impl.ErrState
				}
			}
		}
		got, code := impl.GradingMap(a, weights, k)
		if code != want || code != impl.ErrNone && len(got) != 0 {
			t.Fatalf("GradingMap(%v, %v, %d) = %v, %d", a, weights, k, got, code)
		}
		codes[code]++
	}
	if codes[impl.ErrNone] < 200 || codes[impl.ErrState] < 200 {
		t.Errorf("the codes were %v", codes)
	}
}

func TestLinearTableOfMap(t *testing.T) {
	cases := []struct {
		mapCase
		want [][]int64
	}{
		{mapCase{"", "", nil}, nil},
		{mapCase{"", "2:0;3:1*a2", nil}, nil},
		{mapCase{"2:0;3:1*a2", "", []string{"0", "0"}}, [][]int64{{}, {}}},
		{mapCase{"2:0;3:1*a2", "2:0;3:1*a2", []string{"3*a", "9*b"}}, [][]int64{{3, 0}, {0, 9}}},
		{mapCase{"2:0;3:1*a2", "3:7*b2;2:0", []string{"7*b", "7*a"}}, [][]int64{{0, 7}, {7, 0}}},
		{mapCase{"2:0;5:1*a3", "2:0;3:1*a2", []string{"1*a", "1*ab"}}, [][]int64{{1, 0}, {0, 0}}},
		{mapCase{"2:0;3:0;4:1*ab", "2:0;3:0;4:1*ab", []string{"2*a", "3*b", "5*a2+6*c"}}, [][]int64{{2, 0, 0}, {0, 3, 0}, {0, 0, 6}}},
		{mapCase{"1:0;1:0;1:0", "1:0;1:0;1:0", []string{"1*a+2*b", "3*b+4*c", "6*a+5*c"}}, [][]int64{{1, 2, 0}, {0, 3, 4}, {6, 0, 5}}},
		{mapCase{"2:0", eight, []string{sumOfEight}}, [][]int64{{1, 1, 1, 1, 1, 1, 1, 1}}},
	}
	for _, c := range cases {
		x := c.mapping(t)
		if got, code := impl.LinearTableOfMap(x.a, x.b, x.m); !sameTables(got, c.want) || code != impl.ErrNone {
			t.Errorf("LinearTableOfMap(%v) = %v, %d", c.mapCase, got, code)
		}
	}
}

func TestLinearTablesOfRandomMaps(t *testing.T) {
	r := rand.New(rand.NewSource(85))
	for range 300 {
		x := randomMap(t, r, 40)
		got, code := impl.LinearTableOfMap(x.a, x.b, x.m)
		if code != impl.ErrNone || len(got) != len(x.a.Degrees) {
			t.Fatalf("LinearTableOfMap(%v) = %v, %d", x, got, code)
		}
		for i, row := range got {
			want := make([]int64, len(x.b.Degrees))
			for _, y := range x.m[i].Terms {
				if word := wordOf(y.Monomial); len(word) == 1 {
					want[word[0]] = y.Factor
				}
			}
			if !slices.Equal(row, want) {
				t.Fatalf("LinearTableOfMap(%v) = %v", x, got)
			}
		}
	}
}
