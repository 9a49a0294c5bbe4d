package tests

import (
	"math/rand"
	"slices"
	"testing"

	"loop.example/g01219/impl"
)

// TestPromise3ClassForms checks that class forms are closed, and that they and their sums are no
// boundaries.
func TestPromise3ClassForms(t *testing.T) {
	r := rand.New(rand.NewSource(70))
	some := 0
	for range 200 {
		a := smallAlgebra(t, r, 10, 60)
		for n := range int64(11) {
			forms := classForms(t, a, n)
			for _, f := range forms {
				if closed, code := impl.IsClosed(a, f); !closed || code != impl.ErrNone {
					t.Fatalf("%v: the class form %v is not closed", a, f)
				}
				checkNoBoundary(t, a, f)
			}
			if numbers := randomNumbers(r, len(forms)); slices.ContainsFunc(numbers, func(x int64) bool { return x != 0 }) {
				checkNoBoundary(t, a, combination(numbers, forms))
				some++
			}
		}
	}
	if some < 300 {
		t.Errorf("only %d sums of class forms", some)
	}
}

func checkNoBoundary(t *testing.T, a impl.Algebra, f impl.Form) {
	t.Helper()
	if boundary, code := impl.IsBoundary(a, f); boundary || code != impl.ErrNone {
		t.Fatalf("%v: the form %v is a boundary: %v, %d", a, f, boundary, code)
	}
	if g, code := impl.PrimitiveOf(a, f); len(g.Terms) != 0 || code != impl.ErrNotFound {
		t.Fatalf("%v: the primitive of %v is %v, %d", a, f, g, code)
	}
}

// TestPromise3IndependentClasses checks that class forms are independent of each other and of the
// boundaries, and make, with these, all closed forms.
func TestPromise3IndependentClasses(t *testing.T) {
	r := rand.New(rand.NewSource(71))
	for range 200 {
		a := smallAlgebra(t, r, 8, 40)
		for n := range int64(9) {
			s := boundariesByWords(a, n)
			for _, f := range classForms(t, a, n) {
				if !s.add(f) {
					t.Fatalf("%v: the class form %v depends on others and boundaries", a, f)
				}
			}
			for _, f := range closedForms(t, a, n) {
				if !s.has(f) {
					t.Fatalf("%v: the closed form %v has no class", a, f)
				}
			}
		}
	}
}

// TestPromise3Primitives checks that the differential of the primitive of d g is d g.
func TestPromise3Primitives(t *testing.T) {
	r := rand.New(rand.NewSource(72))
	some, others := 0, 0
	for range 2000 {
		a := smallAlgebra(t, r, 12, 60)
		g := randomOfDegree(r, a, r.Int63n(12))
		f := differential(t, a, g)
		got, code := impl.PrimitiveOf(a, f)
		if code != impl.ErrNone || !sameForms(differential(t, a, got), f) {
			t.Fatalf("PrimitiveOf(%v, %v) = %v, %d", a, f, got, code)
		}
		if boundary, code := impl.IsBoundary(a, f); !boundary || code != impl.ErrNone {
			t.Fatalf("IsBoundary(%v, %v) = %v, %d", a, f, boundary, code)
		}
		if len(f.Terms) > 0 {
			some++
		}
		if !sameForms(got, g) {
			others++
		}
	}
	if some < 300 || others < 200 {
		t.Errorf("only %d boundaries are not 0, and %d primitives are others", some, others)
	}
}

// TestPromise3KnownSpaces goes through all class forms and boundaries of known spaces up to MaxAsked.
func TestPromise3KnownSpaces(t *testing.T) {
	for _, k := range knownAlgebras() {
		a := algebra(t, k.text)
		for n := range int64(impl.MaxAsked + 1) {
			for i, f := range classForms(t, a, n) {
				checkNoBoundary(t, a, f)
				want := make([]int64, k.betti[n])
				want[i] = 1
				if got, code := impl.ClassOf(a, f); !slices.Equal(got, want) || code != impl.ErrNone {
					t.Errorf("ClassOf(%q, %v) = %v, %d", k.text, f, got, code)
				}
			}
			for _, f := range boundaryForms(t, a, n) {
				checkPrimitive(t, a, f, n, true)
			}
		}
	}
}
