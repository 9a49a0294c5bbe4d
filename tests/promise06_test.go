package tests

import (
	"math/rand"
	"testing"

	"loop.example/g01219/impl"
)

func checkMinimal(t *testing.T, a impl.Algebra) {
	t.Helper()
	if minimal, code := impl.IsMinimal(a); !minimal || code != impl.ErrNone {
		t.Fatalf("IsMinimal(%v) = %v, %d", a, minimal, code)
	}
	if _, _, found := pairByWords(a); found {
		t.Fatalf("%v has a linear term", a)
	}
}

// TestPromise6Reductions checks that reduced algebras are minimal, and that they are not reduced further.
func TestPromise6Reductions(t *testing.T) {
	r := rand.New(rand.NewSource(131))
	list := goodAlgebras(t)
	for _, c := range knownReductions() {
		list = append(list, algebra(t, c.a))
	}
	for range 1000 {
		list = append(list, entangled(t, r, 6, 100))
	}
	others := 0
	for _, a := range list {
		x := reduced(t, a)
		checkMinimal(t, x.b)
		again := reduced(t, x.b)
		if !sameAlgebras(again.b, x.b) || !sameFormLists(again.m, identityForms(x.b)) {
			t.Fatalf("the reduced algebra %v is reduced to %v", x.b, again)
		}
		if len(x.b.Degrees) > 0 && len(x.b.Degrees) < len(a.Degrees) {
			others++
		}
	}
	if others < 300 {
		t.Errorf("only %d algebras are reduced to others with generators", others)
	}
}

// TestPromise6Changes changes generators by a form and then by its opposite.
func TestPromise6Changes(t *testing.T) {
	r := rand.New(rand.NewSource(132))
	others := 0
	for range 2000 {
		a := mixedAlgebra(t, r)
		i := r.Intn(len(a.Degrees))
		f := randomChange(r, a, i)
		b, code := impl.ChangeGenerator(a, int64(i), f)
		if code != impl.ErrNone {
			continue
		}
		opposite := combination([]int64{impl.FieldPrime - 1}, []impl.Form{f})
		if back := changed(t, b, i, opposite); !sameAlgebras(back, a) {
			t.Fatalf("the generator %d of %v, changed by %v and by its opposite, gives %v", i, a, f, back)
		}
		// Changes by two forms add up.
		g := randomChange(r, a, i)
		both := combination([]int64{1, 1}, []impl.Form{f, g})
		if c, code := impl.ChangeGenerator(b, int64(i), g); code == impl.ErrNone && !sameAlgebras(c, changed(t, a, i, both)) {
			t.Fatalf("the generator %d of %v, changed by %v and by %v, gives %v", i, a, f, g, c)
		}
		if !sameAlgebras(a, b) {
			others++
		}
	}
	if others < 500 {
		t.Errorf("only %d changes lead to other images", others)
	}
}

// TestPromise6Scales scales generators by c and then by 1 / c.
func TestPromise6Scales(t *testing.T) {
	r := rand.New(rand.NewSource(133))
	others := 0
	for range 2000 {
		a := mixedAlgebra(t, r)
		i, c := r.Intn(len(a.Degrees)), 1+r.Int63n(impl.FieldPrime-1)
		b := scaledBy(t, a, i, c)
		if back := scaledBy(t, b, i, inverse(c)); !sameAlgebras(back, a) {
			t.Fatalf("the generator %d of %v, scaled by %d and by its inverse, gives %v", i, a, c, back)
		}
		if !sameAlgebras(a, b) {
			others++
		}
	}
	if others < 500 {
		t.Errorf("only %d scales lead to other images", others)
	}
}

// TestPromise6Exchanges exchanges generators by a list and then by its inverse.
func TestPromise6Exchanges(t *testing.T) {
	r := rand.New(rand.NewSource(134))
	others := 0
	for range 2000 {
		a := mixedAlgebra(t, r)
		list := randomOrder(r, len(a.Degrees))
		back := make([]int64, len(list))
		for k, i := range list {
			back[i] = int64(k)
		}
		b := exchanged(t, a, list)
		if c := exchanged(t, b, back); !sameAlgebras(c, a) {
			t.Fatalf("the generators of %v, exchanged by %v and back, give %v", a, list, c)
		}
		if !sameAlgebras(a, b) {
			others++
		}
	}
	if others < 500 {
		t.Errorf("only %d exchanges lead to other images", others)
	}
}
