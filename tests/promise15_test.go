package tests

import (
	"math/rand"
	"testing"

	"loop.example/g01219/impl"
)

// checkPromise15 checks that a model up to n has the cohomology of its algebra up to n, and none of the degree n + 1
// that is led to boundaries.
func checkPromise15(t *testing.T, x mapping, n int64) {
	t.Helper()
	for i := range n + 1 {
		if got, want := bettiByWords(x.a, i), bettiByWords(x.b, i); got != want {
			t.Fatalf("the model %v up to %d has the Betti number %d of the degree %d, and not %d", x, n, got, i, want)
		}
	}
	if !isModelByWords(t, x, n) {
		t.Fatalf("%v is no model up to %d", x, n)
	}
}

// TestPromise15KnownModels asks the functions of chapters 3 and 4, too.
func TestPromise15KnownModels(t *testing.T) {
	for _, c := range knownModels() {
		x := minimalModel(t, algebra(t, c.a), c.n)
		checkPromise15(t, x, c.n)
		model, one := impl.BettiNumbers(x.a, c.n)
		whole, two := impl.BettiNumbers(x.b, c.n)
		if one != impl.ErrNone || two != impl.ErrNone || !sameTables([][]int64{model}, [][]int64{whole}) {
			t.Errorf("the Betti numbers of %q are %v, %d; those of its model %v, %d", c.a, whole, two, model, one)
		}
		if yes, code := impl.IsIsomorphicTo(x.a, x.b, x.m, c.n); !yes || code != impl.ErrNone {
			t.Errorf("IsIsomorphicTo of the model of %q = %v, %d", c.a, yes, code)
		}
		if yes, code := impl.IsModel(x.a, x.b, x.m, c.n); !yes || code != impl.ErrNone {
			t.Errorf("IsModel of the model of %q = %v, %d", c.a, yes, code)
		}
	}
}

func TestPromise15(t *testing.T) {
	r := rand.New(rand.NewSource(112))
	some, killed := 0, 0
	for range 400 {
		a, n := simpleAlgebra(t, r, 9, 60), 2+r.Int63n(7)
		b, images, code := impl.MinimalModel(a, n)
		if code != impl.ErrNone {
			continue
		}
		x := mapping{b, a, images}
		checkPromise15(t, x, n)
		if mostMonomials(b, n+2) <= impl.MaxSide {
			checkIsModel(t, x, n)
		}
		for i, f := range b.Images {
			if len(f.Terms) > 0 && i < len(a.Degrees) {
				killed++
			}
		}
		if len(b.Degrees) > 1 {
			some++
		}
	}
	if some < 100 || killed < 50 {
		t.Errorf("only %d models with more generators, and %d generators whose d is not 0", some, killed)
	}
}

func checkIsModel(t *testing.T, x mapping, n int64) {
	t.Helper()
	if yes, code := impl.IsModel(x.a, x.b, x.m, n); !yes || code != impl.ErrNone {
		t.Fatalf("IsModel(%v, %d) = %v, %d", x, n, yes, code)
	}
}

// TestPromise15MoreGenerators has models with more generators than their algebras.
func TestPromise15MoreGenerators(t *testing.T) {
	for text, n := range map[string]int64{lie(1): 10, lie(1, 1): 2, lie(1, 2): 6, lie(1, 3): 6, lie(1, 4): 9, lie(3, 3): 10} {
		x := minimalModel(t, algebra(t, text), n)
		checkPromise15(t, x, n)
		checkIsModel(t, x, n)
	}
}
