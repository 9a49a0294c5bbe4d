package tests

import (
	"math/rand"
	"slices"
	"testing"

	"loop.example/g01219/impl"
)

func TestFirstPair(t *testing.T) {
	for _, c := range knownReductions() {
		if got, code := impl.FirstPair(algebra(t, c.a)); !slices.Equal(got, c.pair) || code != impl.ErrNone {
			t.Errorf("FirstPair(%q) = %v, %d", c.a, got, code)
		}
	}
	for _, text := range minimalTexts() {
		if got, code := impl.FirstPair(algebra(t, text)); len(got) != 0 || code != impl.ErrNotFound {
			t.Errorf("FirstPair(%q) = %v, %d", text, got, code)
		}
	}
}

// TestFirstPairsAreLeast has images in which the linear term is behind others or ahead of them, and images with
// several ones.
func TestFirstPairsAreLeast(t *testing.T) {
	for text, want := range map[string][]int64{
		"1:0;2:0;2:0;4:0;3:1*b2+1*bc+1*d":           {4, 3},
		"4:0;2:0;3:1*a+1*b2":                        {2, 0},
		"2:0;3:0;4:0;4:0;3:5*a2+6*c+7*d;3:1*c":      {4, 2},
		"2:0;3:1*e;4:0;4:0;4:0;3:5*a2+6*c+7*d":      {1, 4},
		"2:0;2:0;2:0;1:1*c;1:1*b;1:1*a":             {3, 2},
		"1:1*e;1:1*d;1:0;2:0;2:0":                   {0, 4},
		"6:0;2:0;5:2*b3;5:1*a+1*b3":                 {3, 0},
		"2:0;2:0;2:0;2:0;2:0;2:0;2:0;1:1*g":         {7, 6},
		"1:1*h;2:0;2:0;2:0;2:0;2:0;2:0;2:0":         {0, 7},
		"1:0;1:1*ac;1:0;2:0;1:1*ac+1*d":             {4, 3},
		"1:0;2:1*ab+1*c;3:1*ac;1:1*e;2:0;12:0":      {1, 2},
		"1:0;1:0;2:1*abd+1*f;1:0;4:0;3:0":           {2, 5},
		"11:1*b;12:0;11:1*b;11:1*b;11:1*b;11:0":     {0, 1},
		"11:0;11:0;11:0;11:0;11:0;11:0;11:3*h;12:0": {6, 7},
	} {
		if got, code := impl.FirstPair(algebra(t, text)); !slices.Equal(got, want) || code != impl.ErrNone {
			t.Errorf("FirstPair(%q) = %v, %d, not %v", text, got, code, want)
		}
	}
}

func TestContractPair(t *testing.T) {
	for _, c := range knownReductions() {
		want := algebra(t, c.contracted)
		got, m, code := impl.ContractPair(algebra(t, c.a))
		if !sameAlgebras(got, want) || !sameFormLists(m, parseAll(t, want.Degrees, c.first)) || code != impl.ErrNone {
			t.Errorf("ContractPair(%q) = %v, %v, %d", c.a, got, m, code)
		}
	}
	for _, text := range minimalTexts() {
		if got, m, code := impl.ContractPair(algebra(t, text)); !isZeroAlgebra(got) || len(m) != 0 || code != impl.ErrNotFound {
			t.Errorf("ContractPair(%q) = %v, %v, %d", text, got, m, code)
		}
	}
}

func TestReduceAlgebra(t *testing.T) {
	for _, c := range knownReductions() {
		want := algebra(t, c.reduced)
		got, m, code := impl.ReduceAlgebra(algebra(t, c.a))
		if !sameAlgebras(got, want) || !sameFormLists(m, parseAll(t, want.Degrees, c.projections)) || code != impl.ErrNone {
			t.Errorf("ReduceAlgebra(%q) = %v, %v, %d", c.a, got, m, code)
		}
	}
	for _, text := range minimalTexts() {
		a := algebra(t, text)
		got, m, code := impl.ReduceAlgebra(a)
		if !sameAlgebras(got, a) || !sameFormLists(m, identityForms(a)) || code != impl.ErrNone {
			t.Errorf("ReduceAlgebra(%q) = %v, %v, %d", text, got, m, code)
		}
	}
}

func TestIsContractible(t *testing.T) {
	for _, c := range knownReductions() {
		if got, code := impl.IsContractible(algebra(t, c.a)); got != (c.reduced == "") || code != impl.ErrNone {
			t.Errorf("IsContractible(%q) = %v, %d", c.a, got, code)
		}
	}
	for _, text := range minimalTexts() {
		if got, code := impl.IsContractible(algebra(t, text)); got != (text == "") || code != impl.ErrNone {
			t.Errorf("IsContractible(%q) = %v, %d", text, got, code)
		}
	}
}

// checkPair compares FirstPair with what the words of the images tell.
func checkPair(t *testing.T, a impl.Algebra) {
	t.Helper()
	i, j, found := pairByWords(a)
	want, wantCode := []int64{int64(i), int64(j)}, int64(impl.ErrNone)
	if !found {
		want, wantCode = nil, impl.ErrNotFound
	}
	if got, code := impl.FirstPair(a); !slices.Equal(got, want) || code != wantCode {
		t.Fatalf("FirstPair(%v) = %v, %d", a, got, code)
	}
}

// checkContraction compares a contraction with that by words, which is also told by its projection being a map
// that leads x(i) to 0, and all generators but x(i) and x(j) to new ones.
func checkContraction(t *testing.T, a impl.Algebra) mapping {
	t.Helper()
	x, want := contracted(t, a), contractedByWords(a)
	if !sameAlgebras(x.b, want.b) || !sameFormLists(x.m, want.m) {
		t.Fatalf("ContractPair(%v) = %v, %v", a, x.b, x.m)
	}
	if !impl.IsAlgebra(x.b) || !isAlgebraByWords(x.b) || !x.isMapByWords() || !impl.IsMap(a, x.b, x.m) {
		t.Fatalf("ContractPair(%v) = %v, %v is no algebra with a map", a, x.b, x.m)
	}
	return x
}

// checkReduction reduces an algebra step by step.
func checkReduction(t *testing.T, a impl.Algebra) {
	t.Helper()
	x := mapping{a, a, identityForms(a)}
	for {
		checkPair(t, x.b)
		if _, _, found := pairByWords(x.b); !found {
			break
		}
		x = composed(t, x, checkContraction(t, x.b))
	}
	got := reduced(t, a)
	if !sameAlgebras(got.b, x.b) || !sameFormLists(got.m, x.m) {
		t.Fatalf("ReduceAlgebra(%v) = %v, %v, not %v, %v", a, got.b, got.m, x.b, x.m)
	}
	if yes, code := impl.IsContractible(a); yes != (len(x.b.Degrees) == 0) || code != impl.ErrNone {
		t.Fatalf("IsContractible(%v) = %v, %d", a, yes, code)
	}
}

// TestReductionsByWords counts what makes them hard: x(j) in the images of other generators, and x(i) in them or
// in d x(i), x(j) led to forms other than 0, odd ones too, and several contractions.
func TestReductionsByWords(t *testing.T) {
	r := rand.New(rand.NewSource(120))
	count := map[string]int{}
	for range 1500 {
		a := entangled(t, r, 9, 150)
		checkReduction(t, a)
		i, j, found := pairByWords(a)
		if !found {
			t.Fatalf("%v is minimal", a)
		}
		x := contracted(t, a)
		if len(x.m[j].Terms) > 1 {
			count["several terms"]++
		}
		if len(x.m[j].Terms) > 0 && a.Degrees[j]%2 == 1 {
			count["odd"]++
		}
		for k, f := range a.Images {
			if hasGenerator(f, i) && k != i && k != j {
				count["first generator"]++
			}
			if hasGenerator(f, j) && k != i && len(x.m[j].Terms) > 0 {
				count["second generator"]++
			}
			if hasGenerator(f, i) && k == i {
				count["own generator"]++
			}
		}
		if len(reduced(t, a).b.Degrees) < len(a.Degrees)-2 {
			count["several pairs"]++
		}
		if len(reduced(t, a).b.Degrees) == 0 {
			count["no generators"]++
		}
	}
	for name, least := range map[string]int{"several terms": 200, "odd": 100, "first generator": 200, "second generator": 200, "own generator": 5, "several pairs": 300, "no generators": 50} {
		if count[name] < least {
			t.Errorf("%q was met %d times: %v", name, count[name], count)
		}
	}
}

// hasGenerator reports whether the generator i occurs in f.
func hasGenerator(f impl.Form, i int) bool {
	return slices.ContainsFunc(f.Terms, func(x impl.Term) bool { return x.Monomial[i] > 0 })
}

// TestReductionsOfOtherAlgebras has algebras in which pairs come by chance, and generators that need their own
// rank.
func TestReductionsOfOtherAlgebras(t *testing.T) {
	r := rand.New(rand.NewSource(121))
	list := goodAlgebras(t)
	for range 500 {
		list = append(list, randomAlgebra(t, r, 8))
	}
	minimal, others := 0, 0
	for _, a := range list {
		checkReduction(t, a)
		if _, _, found := pairByWords(a); found {
			others++
		} else {
			minimal++
		}
	}
	if minimal < 100 || others < 100 {
		t.Errorf("%d minimal algebras, and %d others", minimal, others)
	}
}

// TestContractionsOfManyTerms contracts a pair with 400 terms in d x(i), the most that there may be.
func TestContractionsOfManyTerms(t *testing.T) {
	a := algebra(t, "2:0;2:0;2:0;2:0;2:0;2:0;11:0;12:0")
	for _, m := range allMonomials(a.Degrees, 12) {
		if m[7] == 0 && len(a.Images[6].Terms) < impl.MaxTerms-1 {
			a.Images[6].Terms = append(a.Images[6].Terms, impl.Term{Monomial: m, Factor: 3})
		}
	}
	a.Images[6].Terms = append(a.Images[6].Terms, generator(7, 10006).Terms...)
	if !impl.IsAlgebra(a) || len(a.Images[6].Terms) != impl.MaxTerms {
		t.Fatalf("%v is no algebra with an image of 400 terms", a)
	}
	checkReduction(t, a)
	if x := reduced(t, a); len(x.m[7].Terms) != impl.MaxTerms-1 || len(x.b.Degrees) != 6 {
		t.Errorf("the last generator is led to %d terms of %v", len(x.m[7].Terms), x.b.Degrees)
	}
}
