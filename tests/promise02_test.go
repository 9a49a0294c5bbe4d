package tests

import (
	"math/rand"
	"testing"

	"loop.example/g01219/impl"
)

// differential returns d f of a form that stays within the limits.
func differential(t *testing.T, a impl.Algebra, f impl.Form) impl.Form {
	t.Helper()
	g, code := impl.DifferentialOfForm(a, f)
	if code != impl.ErrNone || !impl.IsForm(a.Degrees, g) {
		t.Fatalf("DifferentialOfForm(%v, %v) = %v, %d", a, f, g, code)
	}
	return g
}

func scaled(t *testing.T, degrees []int64, k int64, f impl.Form) impl.Form {
	t.Helper()
	g, code := impl.ScaleForm(degrees, k, f)
	if code != impl.ErrNone {
		t.Fatalf("ScaleForm(%v, %d, %v): code %d", degrees, k, f, code)
	}
	return g
}

func TestPromise2Squares(t *testing.T) {
	r := rand.New(rand.NewSource(20))
	some := 0
	for range 3000 {
		a := randomAlgebra(t, r, 8)
		f := randomForm(r, a.Degrees, 6, 3)
		g := differential(t, a, f)
		if h := differential(t, a, g); len(h.Terms) != 0 {
			t.Fatalf("d d of %v in %v = %v", f, a, h)
		}
		if closed, code := impl.IsClosed(a, g); !closed || code != impl.ErrNone {
			t.Fatalf("d of %v in %v is not closed", f, a)
		}
		if len(g.Terms) > 0 {
			some++
		}
	}
	if some < 500 {
		t.Errorf("only %d differentials are not 0", some)
	}
}

func TestPromise2Sums(t *testing.T) {
	r := rand.New(rand.NewSource(21))
	for range 2000 {
		a := randomAlgebra(t, r, 8)
		f, g := randomForm(r, a.Degrees, 6, 3), randomForm(r, a.Degrees, 6, 3)
		k := r.Int63n(impl.FieldPrime)
		left := differential(t, a, sumOf(t, a.Degrees, f, scaled(t, a.Degrees, k, g)))
		right := sumOf(t, a.Degrees, differential(t, a, f), scaled(t, a.Degrees, k, differential(t, a, g)))
		if !sameForms(left, right) {
			t.Fatalf("%v: d of the sum of %v and %d times %v: %v and %v", a, f, k, g, left, right)
		}
	}
}

// TestPromise12Products checks the rule of products for homogeneous forms. It is promise 2's, too.
func TestPromise12Products(t *testing.T) {
	r := rand.New(rand.NewSource(22))
	some, signs := 0, 0
	for range 3000 {
		a := randomAlgebra(t, r, 8)
		f, n := randomPart(r, a.Degrees, 3, 2)
		g, _ := randomPart(r, a.Degrees, 3, 2)
		sign := int64(1)
		if n%2 == 1 {
			sign = impl.FieldPrime - 1
		}
		left := differential(t, a, times(t, a.Degrees, f, g))
		first := times(t, a.Degrees, differential(t, a, f), g)
		second := scaled(t, a.Degrees, sign, times(t, a.Degrees, f, differential(t, a, g)))
		if right := sumOf(t, a.Degrees, first, second); !sameForms(left, right) {
			t.Fatalf("%v: d of the product of %v and %v: %v and %v", a, f, g, left, right)
		}
		if len(first.Terms) > 0 && len(second.Terms) > 0 {
			some++
		}
		if len(second.Terms) > 0 && sign != 1 {
			signs++
		}
	}
	if some < 100 || signs < 100 {
		t.Errorf("only %d products with two parts, and %d with a sign", some, signs)
	}
}

// TestPromise12Parts checks the rule of products, part by part, for forms that are not homogeneous.
func TestPromise12Parts(t *testing.T) {
	r := rand.New(rand.NewSource(23))
	for range 500 {
		a := randomAlgebra(t, r, 6)
		f, g := randomForm(r, a.Degrees, 4, 2), randomForm(r, a.Degrees, 4, 2)
		right := times(t, a.Degrees, differential(t, a, f), g)
		for n := range int64(6*12*2 + 1) {
			part, code := impl.PartOfForm(a.Degrees, f, n)
			if code != impl.ErrNone {
				t.Fatalf("PartOfForm: code %d", code)
			}
			product := times(t, a.Degrees, part, differential(t, a, g))
			if n%2 == 1 {
				product = scaled(t, a.Degrees, impl.FieldPrime-1, product)
			}
			right = sumOf(t, a.Degrees, right, product)
		}
		if left := differential(t, a, times(t, a.Degrees, f, g)); !sameForms(left, right) {
			t.Fatalf("%v: d of the product of %v and %v: %v and %v", a, f, g, left, right)
		}
	}
}

// TestDifferentialsByWords compares d with that of words of generators.
func TestDifferentialsByWords(t *testing.T) {
	r := rand.New(rand.NewSource(24))
	for range 2000 {
		a := randomAlgebra(t, r, 8)
		f := randomForm(r, a.Degrees, 5, 4)
		if got, want := differential(t, a, f), differentialByWords(a, f); !sameForms(got, want) {
			t.Fatalf("DifferentialOfForm(%v, %v) = %v, not %v", a, f, got, want)
		}
	}
}

// TestDifferentialsOfGenerators checks that d of a generator is its image.
func TestDifferentialsOfGenerators(t *testing.T) {
	for _, a := range goodAlgebras(t) {
		for i := range a.Degrees {
			x := term(1)
			x.Monomial[i] = 1
			if got := differential(t, a, formOf(x)); !sameForms(got, a.Images[i]) {
				t.Errorf("%v: d of the generator %d is %v", a, i, got)
			}
		}
		if got := differential(t, a, formOf(term(3))); len(got.Terms) != 0 {
			t.Errorf("%v: d of a number is %v", a, got)
		}
	}
}

func TestPromise2Texts(t *testing.T) {
	r := rand.New(rand.NewSource(25))
	for range 3000 {
		a := randomAlgebra(t, r, 8)
		text, code := impl.AlgebraText(a)
		if code != impl.ErrNone {
			t.Fatalf("AlgebraText(%v): code %d", a, code)
		}
		if b := algebra(t, text); !sameAlgebras(a, b) {
			t.Fatalf("%v comes back from %q as %v", a, text, b)
		}
	}
}
