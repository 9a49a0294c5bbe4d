package tests

import (
	"math/rand"
	"slices"
	"testing"

	"loop.example/g01219/impl"
)

func TestScaleGenerator(t *testing.T) {
	const sphere, heisenberg = "2:0;3:1*a2", "1:0;1:0;1:1*ab"
	for _, c := range []struct {
		a    string
		i    int64
		c    int64
		want string
	}{
		{sphere, 0, 1, sphere},
		{sphere, 1, 1, sphere},
		{sphere, 0, 2, "2:0;3:2502*a2"},
		{sphere, 1, 2, "2:0;3:2*a2"},
		{sphere, 0, 10006, sphere},
		{sphere, 1, 10006, "2:0;3:10006*a2"},
		{sphere, 1, 5003, "2:0;3:5003*a2"},
		{"2:0;3:5*a2", 1, 5, "2:0;3:25*a2"},
		{"2:0;3:5*a2", 1, 6004, "2:0;3:10006*a2"},
		{"2:0;3:5*a2", 1, 4003, "2:0;3:1*a2"},
		{"12:0", 0, 77, "12:0"},
		{"2:0;5:8*a3", 0, 2, "2:0;5:1*a3"},
		{"2:0;5:8*a3", 0, 10005, "2:0;5:10006*a3"},
		{"2:0;2:0;3:4*a2+6*ab+3*b2", 0, 2, "2:0;2:0;3:1*a2+3*ab+3*b2"},
		{heisenberg, 0, 10006, "1:0;1:0;1:10006*ab"},
		{heisenberg, 1, 10006, "1:0;1:0;1:10006*ab"},
		{heisenberg, 2, 10006, "1:0;1:0;1:10006*ab"},
		{"1:3*b;2:0", 0, 5, "1:15*b;2:0"},
		{"1:15*b;2:0", 1, 5, "1:3*b;2:0"},
		// The generator is in its own image.
		{"1:0;2:3*ab", 1, 7, "1:0;2:3*ab"},
		{"1:0;2:3*ab+4*ac;2:3*ac", 1, 7, "1:0;2:3*ab+28*ac;2:3*ac"},
		{"1:0;2:3*ab+28*ac;2:3*ac", 2, 7, "1:0;2:3*ab+4*ac;2:3*ac"},
		{"1:1*bc;1:1*ac;1:1*ab", 0, 10006, "1:10006*bc;1:10006*ac;1:10006*ab"},
		{"1:1*bc;1:1*ac;1:1*ab", 0, 2, "1:2*bc;1:5004*ac;1:5004*ab"},
	} {
		if got, code := impl.ScaleGenerator(algebra(t, c.a), c.i, c.c); !sameAlgebras(got, algebra(t, c.want)) || code != impl.ErrNone {
			t.Errorf("ScaleGenerator(%q, %d, %d) = %v, %d", c.a, c.i, c.c, got, code)
		}
	}
}

func TestScalesByWords(t *testing.T) {
	r := rand.New(rand.NewSource(123))
	others, odd := 0, 0
	for range 2000 {
		a := randomAlgebra(t, r, 8)
		if len(a.Degrees) == 0 {
			continue
		}
		i := r.Intn(len(a.Degrees))
		c := []int64{1, 2, impl.FieldPrime - 1, 1 + r.Int63n(impl.FieldPrime-1)}[r.Intn(4)]
		image := combination([]int64{c}, []impl.Form{a.Images[i]})
		want := replacedByWords(a, i, generator(i, inverse(c)), image)
		got := scaledBy(t, a, i, c)
		if !sameAlgebras(got, want.b) {
			t.Fatalf("ScaleGenerator(%v, %d, %d) = %v", a, i, c, got)
		}
		checkIsomorphism(t, want)
		if !sameAlgebras(a, got) {
			others++
			odd += int(a.Degrees[i] % 2)
		}
	}
	if others < 300 || odd < 100 {
		t.Errorf("only %d scales lead to other images, %d of odd generators", others, odd)
	}
}

func TestExchangeGenerators(t *testing.T) {
	const sphere, heisenberg = "2:0;3:1*a2", "1:0;1:0;1:1*ab"
	for _, c := range []struct {
		a    string
		list []int64
		want string
	}{
		{"", nil, ""},
		{"", []int64{}, ""},
		{"5:0", []int64{0}, "5:0"},
		{sphere, []int64{0, 1}, sphere},
		{sphere, []int64{1, 0}, "3:1*b2;2:0"},
		{"2:0;4:0;3:1*a2", []int64{1, 0, 2}, "4:0;2:0;3:1*b2"},
		{"2:0;4:0;3:1*a2", []int64{2, 0, 1}, "3:1*b2;2:0;4:0"},
		{"2:0;4:0;3:1*a2", []int64{1, 2, 0}, "4:0;3:1*c2;2:0"},
		{heisenberg, []int64{1, 0, 2}, "1:0;1:0;1:10006*ab"},
		{heisenberg, []int64{2, 0, 1}, "1:1*bc;1:0;1:0"},
		{heisenberg, []int64{2, 1, 0}, "1:10006*bc;1:0;1:0"},
		{heisenberg, []int64{0, 2, 1}, "1:0;1:1*ac;1:0"},
		{heisenberg, []int64{1, 2, 0}, "1:0;1:10006*ac;1:0"},
		{"1:1*b;2:0", []int64{1, 0}, "2:0;1:1*a"},
		{"2:0;3:0;4:1*ab", []int64{1, 0, 2}, "3:0;2:0;4:1*ab"},
		{"3:0;5:0;7:1*ab", []int64{1, 0, 2}, "5:0;3:0;7:10006*ab"},
		{"2:0;2:0;3:4*a2+6*ab+3*b2", []int64{1, 0, 2}, "2:0;2:0;3:3*a2+6*ab+4*b2"},
		{"1:0;1:0;1:0;2:5*abc", []int64{1, 2, 0, 3}, "1:0;1:0;1:0;2:5*abc"},
		{"1:0;1:0;1:0;2:5*abc", []int64{2, 1, 0, 3}, "1:0;1:0;1:0;2:10002*abc"},
		{"1:0;2:0;1:0;3:5*abc", []int64{2, 1, 0, 3}, "1:0;2:0;1:0;3:10002*abc"},
		{"1:0;2:0;3:0;4:0;5:0;6:0;7:0;8:0", []int64{7, 6, 5, 4, 3, 2, 1, 0}, "8:0;7:0;6:0;5:0;4:0;3:0;2:0;1:0"},
	} {
		if got, code := impl.ExchangeGenerators(algebra(t, c.a), c.list); !sameAlgebras(got, algebra(t, c.want)) || code != impl.ErrNone {
			t.Errorf("ExchangeGenerators(%q, %v) = %v, %d", c.a, c.list, got, code)
		}
	}
}

// exchangedByWords returns the mapping from an algebra to that with its generators exchanged by a list.
func exchangedByWords(a impl.Algebra, list []int64) mapping {
	var numbers []int
	for _, i := range list {
		numbers = append(numbers, int(i))
	}
	return ledTo(a, numbers).withImages(numbers)
}

func TestExchangesByWords(t *testing.T) {
	r := rand.New(rand.NewSource(124))
	signs := 0
	for range 2000 {
		a := randomAlgebra(t, r, 8)
		list := randomOrder(r, len(a.Degrees))
		want, got := exchangedByWords(a, list), exchanged(t, a, list)
		if !sameAlgebras(got, want.b) {
			t.Fatalf("ExchangeGenerators(%v, %v) = %v", a, list, got)
		}
		checkIsomorphism(t, want)
		for k, i := range list {
			signs += countOfSigns(a.Images[i], got.Images[k])
		}
	}
	if signs < 300 {
		t.Errorf("only %d signs changed", signs)
	}
}

// countOfSigns returns how many factors of g are opposite to some of f, and none of them.
func countOfSigns(f, g impl.Form) int {
	count := 0
	for _, y := range g.Terms {
		same := slices.ContainsFunc(f.Terms, func(x impl.Term) bool { return x.Factor == y.Factor })
		opposite := slices.ContainsFunc(f.Terms, func(x impl.Term) bool { return x.Factor == impl.FieldPrime-y.Factor })
		if opposite && !same {
			count++
		}
	}
	return count
}

func TestSortGenerators(t *testing.T) {
	for _, c := range []struct {
		a    string
		list []int64
		want string
	}{
		{"", nil, ""},
		{"5:0", []int64{0}, "5:0"},
		{"2:0;3:1*a2", []int64{0, 1}, "2:0;3:1*a2"},
		{"3:1*b2;2:0", []int64{1, 0}, "2:0;3:1*a2"},
		{"2:0;4:0;3:1*a2", []int64{0, 2, 1}, "2:0;3:1*a2;4:0"},
		{"1:0;1:0;1:1*ab", []int64{0, 1, 2}, "1:0;1:0;1:1*ab"},
		{"3:0;2:0;3:7*b2;2:0;3:8*d2", []int64{1, 3, 0, 2, 4}, "2:0;2:0;3:0;3:7*a2;3:8*b2"},
		{"12:1*ab;1:0;12:0", []int64{1, 0, 2}, "1:0;12:1*ab;12:0"},
		{"3:0;1:0;3:1*ab", []int64{1, 0, 2}, "1:0;3:0;3:10006*ab"},
		{"5:0;4:0;3:0;2:0;1:0;1:0;1:0;12:0", []int64{4, 5, 6, 3, 2, 1, 0, 7}, "1:0;1:0;1:0;2:0;3:0;4:0;5:0;12:0"},
		{"2:0;2:0;2:0;2:0;1:2*a;1:3*b;1:5*c;1:7*d", []int64{4, 5, 6, 7, 0, 1, 2, 3}, "1:2*e;1:3*f;1:5*g;1:7*h;2:0;2:0;2:0;2:0"},
	} {
		got, list, code := impl.SortGenerators(algebra(t, c.a))
		if !sameAlgebras(got, algebra(t, c.want)) || !slices.Equal(list, c.list) || code != impl.ErrNone {
			t.Errorf("SortGenerators(%q) = %v, %v, %d", c.a, got, list, code)
		}
	}
}

func TestSortedGeneratorsByWords(t *testing.T) {
	r := rand.New(rand.NewSource(125))
	moved := 0
	for range 2000 {
		a := randomAlgebra(t, r, 8)
		// Each next generator is the first one of the least degree that is left.
		var list []int64
		for n := range int64(impl.MaxWeight + 1) {
			for i, degree := range a.Degrees {
				if degree == n {
					list = append(list, int64(i))
				}
			}
		}
		got, order, code := impl.SortGenerators(a)
		if !sameAlgebras(got, exchangedByWords(a, list).b) || !slices.Equal(order, list) || code != impl.ErrNone || !slices.IsSorted(got.Degrees) {
			t.Fatalf("SortGenerators(%v) = %v, %v, %d", a, got, order, code)
		}
		if !slices.IsSorted(list) && !sameAlgebras(got, a) {
			moved++
		}
	}
	if moved < 500 {
		t.Errorf("only %d algebras change", moved)
	}
}

// TestManyTermsInOtherOrders takes an image with as many terms as there may be.
func TestManyTermsInOtherOrders(t *testing.T) {
	a := algebra(t, evens+";12:0;11:1*g")
	a = withSum(a, 7, firstMonomials(a, 12, 0, 399, 5))
	if !impl.IsAlgebra(a) || len(a.Images[7].Terms) != impl.MaxTerms {
		t.Fatalf("the image has %d terms", len(a.Images[7].Terms))
	}
	list := []int64{7, 3, 6, 2, 0, 1, 5, 4}
	if got := exchanged(t, a, list); !sameAlgebras(got, exchangedByWords(a, list).b) || len(got.Images[0].Terms) != impl.MaxTerms {
		t.Errorf("ExchangeGenerators of 400 terms = %v", got)
	}
	if got, order, code := impl.SortGenerators(a); len(got.Images[6].Terms) != impl.MaxTerms || !slices.Equal(order, []int64{0, 1, 2, 3, 4, 5, 7, 6}) || code != impl.ErrNone {
		t.Errorf("SortGenerators of 400 terms = %v, %v, %d", got, order, code)
	}
	for i := range a.Degrees {
		if got := scaledBy(t, a, i, 3); len(got.Images[7].Terms) != impl.MaxTerms || sameAlgebras(got, a) {
			t.Errorf("ScaleGenerator of 400 terms = %v", got)
		}
	}
}
