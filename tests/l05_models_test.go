package tests

import (
	"math/rand"
	"slices"
	"testing"

	"loop.example/g01219/impl"
)

func TestMinimalModel(t *testing.T) {
	for _, c := range knownModels() {
		a, want := algebra(t, c.a), algebra(t, c.model)
		images := parseAll(t, a.Degrees, c.images)
		got, forms, code := impl.MinimalModel(a, c.n)
		if !sameAlgebras(got, want) || !sameFormLists(forms, images) || code != impl.ErrNone {
			text, _ := impl.AlgebraText(got)
			t.Errorf("MinimalModel(%q, %d) = %q, %v, %d", c.a, c.n, text, forms, code)
		}
	}
}

// TestMinimalModelBySteps compares models with what the steps of the chapter ask for.
func TestMinimalModelBySteps(t *testing.T) {
	for _, c := range knownModels() {
		checkModel(t, minimalModel(t, algebra(t, c.a), c.n), c.n)
	}
	r := rand.New(rand.NewSource(100))
	sizes, classes, primitives := map[int]int{}, 0, 0
	for range 600 {
		a, n := simpleAlgebra(t, r, 9, 60), 2+r.Int63n(7)
		b, images, code := impl.MinimalModel(a, n)
		if code == impl.ErrLimit {
			continue
		}
		checkModel(t, mapping{b, a, images}, n)
		sizes[len(b.Degrees)]++
		for _, f := range b.Images {
			if len(f.Terms) == 0 {
				classes++
			} else {
				primitives++
			}
		}
	}
	if sizes[0] < 20 || sizes[1] < 20 || sizes[3] < 20 || sizes[6] < 5 || classes < 300 || primitives < 100 {
		t.Errorf("the models have %v generators, %d closed ones and %d others", sizes, classes, primitives)
	}
}

// TestModelsWithMoreGenerators has algebras whose models have more generators than they.
func TestModelsWithMoreGenerators(t *testing.T) {
	for _, c := range []struct {
		a       string
		n       int64
		degrees []int64
	}{
		{lie(1), 10, []int64{2, 3, 3}},
		{lie(1, 1), 2, []int64{2, 2, 2}},
		{lie(1, 2), 6, []int64{2, 3, 3, 3, 4, 5, 6, 6}},
		{lie(1, 3), 6, []int64{2, 3, 3, 4, 5, 6, 6}},
		{lie(1, 4), 9, []int64{2, 3, 3, 5, 6, 7, 8, 9}},
		{lie(3, 3), 10, []int64{3, 6, 6, 6}},
	} {
		x := minimalModel(t, algebra(t, c.a), c.n)
		if !slices.Equal(x.a.Degrees, c.degrees) {
			t.Errorf("the model of %q up to %d has the degrees %v", c.a, c.n, x.a.Degrees)
		}
		checkModel(t, x, c.n)
	}
}

// TestModelsBeginAlike checks that a model up to a lesser degree is the beginning of that up to a greater
// one.
func TestModelsBeginAlike(t *testing.T) {
	var list []impl.Algebra
	for _, c := range knownModels() {
		list = append(list, algebra(t, c.a))
	}
	r := rand.New(rand.NewSource(101))
	for range 100 {
		list = append(list, simpleAlgebra(t, r, 11, 60))
	}
	grown := 0
	for _, a := range append(list, algebra(t, lie(1, 3)), algebra(t, lie(1, 4))) {
		var last mapping
		for n := int64(2); n <= impl.MaxModel; n++ {
			b, images, code := impl.MinimalModel(a, n)
			if code != impl.ErrNone {
				break
			}
			count := len(last.m)
			if count > len(images) || !slices.Equal(b.Degrees[:count], last.a.Degrees) || !sameFormLists(b.Images[:count], last.a.Images) || !sameFormLists(images[:count], last.m) {
				t.Fatalf("the model of %v up to %d is %v, and not the beginning of %v", a, n-1, last, b)
			}
			for _, degree := range b.Degrees[count:] {
				if degree != n {
					t.Fatalf("the model of %v up to %d is %v, with a new generator of the degree %d", a, n, b, degree)
				}
				grown++
			}
			last = mapping{b, a, images}
		}
	}
	if grown < 100 {
		t.Errorf("models grow by %d generators", grown)
	}
}

// TestModelsOfModels checks that the model of a model has the same ranks.
func TestModelsOfModels(t *testing.T) {
	r := rand.New(rand.NewSource(102))
	some := 0
	for range 300 {
		a, n := simpleAlgebra(t, r, 11, 60), 2+r.Int63n(9)
		b, _, code := impl.MinimalModel(a, n)
		if code != impl.ErrNone {
			continue
		}
		want, one := impl.HomotopyRanks(a, n)
		got, two := impl.HomotopyRanks(b, n)
		if two == impl.ErrLimit && mostMonomials(b, n+2) > impl.MaxSide {
			continue
		}
		if !slices.Equal(got, want) || one != impl.ErrNone || two != impl.ErrNone {
			t.Fatalf("the ranks of %v up to %d are %v, %d; those of its model %v, %d", a, n, want, one, got, two)
		}
		if len(b.Degrees) > 1 {
			some++
		}
	}
	if some < 50 {
		t.Errorf("only %d models have more generators", some)
	}
}

func TestHomotopyRanks(t *testing.T) {
	cases := []struct {
		a    string
		n    int64
		want []int64
	}{
		{"", 2, []int64{0, 0, 0}},
		{"", 10, make([]int64, 11)},
		{"2:0;3:1*a2", 2, []int64{0, 0, 1}},
		{"2:0;3:1*a2", 5, []int64{0, 0, 1, 1, 0, 0}},
		{"2:0;5:1*a3", 6, []int64{0, 0, 1, 0, 0, 1, 0}},
		{"2:0;5:1*a3;3:0", 6, []int64{0, 0, 1, 1, 0, 1, 0}},
		{"2:0;3:1*a2;2:0;3:1*c2", 4, []int64{0, 0, 2, 2, 0}},
		{"2:0;3:1*a2;3:1*d;4:0", 5, []int64{0, 0, 1, 1, 0, 0}},
		{"2:0;2:0;3:1*a2;3:1*ab;3:1*b2", 4, []int64{0, 0, 2, 3, 0}},
		{lie(1), 4, []int64{0, 0, 1, 2, 0}},
		{lie(1, 2), 6, []int64{0, 0, 1, 3, 1, 1, 2}},
		{"10:0;10:0", 10, []int64{0, 0, 0, 0, 0, 0, 0, 0, 0, 0, 2}},
	}
	for _, c := range cases {
		got, code := impl.HomotopyRanks(algebra(t, c.a), c.n)
		if !slices.Equal(got, c.want) || code != impl.ErrNone {
			t.Errorf("HomotopyRanks(%q, %d) = %v, %d", c.a, c.n, got, code)
		}
		euler := int64(0)
		for degree, count := range c.want {
			euler += []int64{count, -count}[degree%2]
		}
		if got, code := impl.HomotopyEuler(algebra(t, c.a), c.n); got != euler || code != impl.ErrNone {
			t.Errorf("HomotopyEuler(%q, %d) = %d, %d", c.a, c.n, got, code)
		}
	}
}

func TestHomotopyEuler(t *testing.T) {
	for _, c := range []struct {
		a          string
		n          int64
		want, code int64
	}{
		{"", 2, 0, impl.ErrNone},
		{"2:0", 10, 1, impl.ErrNone},
		{"2:0;3:1*a2", 2, 1, impl.ErrNone},
		{"2:0;3:1*a2", 3, 0, impl.ErrNone},
		{"3:0;5:0;7:0", 6, -2, impl.ErrNone},
		{"3:0;5:0;7:0", 7, -3, impl.ErrNone},
		{"2:0;2:0;3:1*a2;3:1*ab;3:1*b2", 10, -1, impl.ErrNone},
		{"1:0", 5, 0, impl.ErrState},
		{"2:0", 11, 0, impl.ErrRange},
	} {
		if got, code := impl.HomotopyEuler(algebra(t, c.a), c.n); got != c.want || code != c.code {
			t.Errorf("HomotopyEuler(%q, %d) = %d, %d", c.a, c.n, got, code)
		}
	}
}

// TestRanksCountGenerators compares ranks with the degrees of models.
func TestRanksCountGenerators(t *testing.T) {
	r := rand.New(rand.NewSource(103))
	for range 200 {
		a, n := simpleAlgebra(t, r, 11, 60), 2+r.Int63n(9)
		b, _, code := impl.MinimalModel(a, n)
		want := make([]int64, n+1)
		euler := int64(0)
		for _, degree := range b.Degrees {
			want[degree]++
			euler += 1 - 2*(degree%2)
		}
		if code != impl.ErrNone {
			want = nil
		}
		if got, ranksCode := impl.HomotopyRanks(a, n); !slices.Equal(got, want) || ranksCode != code {
			t.Fatalf("HomotopyRanks(%v, %d) = %v, %d", a, n, got, ranksCode)
		}
		if got, eulerCode := impl.HomotopyEuler(a, n); got != euler || eulerCode != code {
			t.Fatalf("HomotopyEuler(%v, %d) = %d, %d", a, n, got, eulerCode)
		}
	}
}
