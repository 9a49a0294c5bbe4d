package tests

import (
	"math/rand"
	"testing"

	"loop.example/g01219/impl"
)

// TestPromise4Differentials checks that maps keep differentials: the image of d f is d of the image.
func TestPromise4Differentials(t *testing.T) {
	r := rand.New(rand.NewSource(92))
	some := 0
	for range 2000 {
		x := randomMap(t, r, 40)
		f := randomOfDegree(r, x.a, 1+r.Int63n(9))
		left := applied(t, x, differential(t, x.a, f))
		right := differential(t, x.b, applied(t, x, f))
		if !sameForms(left, right) {
			t.Fatalf("%v and %v: the image of d is %v, and d of the image is %v", x, f, left, right)
		}
		if len(left.Terms) > 0 {
			some++
		}
	}
	if some < 200 {
		t.Errorf("only %d images of differentials are not 0", some)
	}
}

// TestPromise4KnownMaps checks the same for all monomials of low degrees and known maps.
func TestPromise4KnownMaps(t *testing.T) {
	for _, x := range mappingsOf(t, goodMaps()) {
		for n := range int64(7) {
			for _, m := range allMonomials(x.a.Degrees, n) {
				f := formOf(impl.Term{Monomial: m, Factor: 3})
				left, right := applied(t, x, differential(t, x.a, f)), differential(t, x.b, applied(t, x, f))
				if !sameForms(left, right) {
					t.Errorf("%v and %v: the image of d is %v, and d of the image is %v", x, f, left, right)
				}
			}
		}
	}
}

// TestPromise4SumsAndProducts checks that maps keep sums, multiples and products.
func TestPromise4SumsAndProducts(t *testing.T) {
	r := rand.New(rand.NewSource(93))
	some := 0
	for range 3000 {
		x := randomMap(t, r, 40)
		f, g := randomOfDegree(r, x.a, 1+r.Int63n(5)), randomOfDegree(r, x.a, 1+r.Int63n(5))
		k := r.Int63n(impl.FieldPrime)
		left := applied(t, x, sumOf(t, x.a.Degrees, f, scaled(t, x.a.Degrees, k, g)))
		right := sumOf(t, x.b.Degrees, applied(t, x, f), scaled(t, x.b.Degrees, k, applied(t, x, g)))
		if !sameForms(left, right) {
			t.Fatalf("%v: the image of the sum of %v and %d times %v is %v, not %v", x, f, k, g, left, right)
		}
		left = applied(t, x, times(t, x.a.Degrees, f, g))
		right = times(t, x.b.Degrees, applied(t, x, f), applied(t, x, g))
		if !sameForms(left, right) {
			t.Fatalf("%v: the image of the product of %v and %v is %v, not %v", x, f, g, left, right)
		}
		if len(left.Terms) > 1 {
			some++
		}
	}
	if some < 200 {
		t.Errorf("only %d products have more terms", some)
	}
}

// TestPromise4Compositions checks that compositions are maps that lead forms where both maps, one after
// the other, lead them.
func TestPromise4Compositions(t *testing.T) {
	r := rand.New(rand.NewSource(94))
	some := 0
	for range 2000 {
		x := randomMap(t, r, 40)
		y := randomMapping(r, x.b, randomTarget(t, r, x.b, 40))
		both := composed(t, x, y)
		if !impl.IsMap(x.a, y.b, both.m) {
			t.Fatalf("%v then %v is no map: %v", x, y, both.m)
		}
		f := randomOfDegree(r, x.a, 1+r.Int63n(8))
		left, right := applied(t, both, f), applied(t, y, applied(t, x, f))
		if !sameForms(left, right) {
			t.Fatalf("%v then %v leads %v to %v, not %v", x, y, f, left, right)
		}
		if len(left.Terms) > 0 {
			some++
		}
	}
	if some < 200 {
		t.Errorf("only %d images are not 0", some)
	}
}

// partsOf returns the inclusion and the projection of one of two algebras.
func partsOf(t *testing.T, a, b impl.Algebra, second bool) (mapping, mapping) {
	t.Helper()
	product, one := impl.ProductOfAlgebras(a, b)
	in, two := impl.InclusionOf(a, b, second)
	out, three := impl.ProjectionOf(a, b, second)
	if one != impl.ErrNone || two != impl.ErrNone || three != impl.ErrNone {
		t.Fatalf("%v and %v: codes %d, %d and %d", a, b, one, two, three)
	}
	part := a
	if second {
		part = b
	}
	return mapping{part, product, in}, mapping{product, part, out}
}

// TestPromise4Projections checks that projections undo inclusions, and lead the other algebra to 0.
func TestPromise4Projections(t *testing.T) {
	r := rand.New(rand.NewSource(95))
	for range 1000 {
		a, b := randomAlgebra(t, r, 4), randomAlgebra(t, r, 4)
		for _, second := range []bool{false, true} {
			in, out := partsOf(t, a, b, second)
			_, other := partsOf(t, a, b, !second)
			for _, x := range []mapping{in, out, other} {
				if !impl.IsMap(x.a, x.b, x.m) {
					t.Fatalf("%v is no map", x)
				}
			}
			if both := composed(t, in, out); !sameFormLists(both.m, identityForms(in.a)) {
				t.Fatalf("the projection of %v and %v does not undo the inclusion: %v", a, b, both.m)
			}
			if both := composed(t, in, other); !both.isZeroMap() {
				t.Fatalf("the other projection of %v and %v leads the included one to %v", a, b, both.m)
			}
			f := randomForm(r, in.a.Degrees, 4, 3)
			if g := applied(t, out, applied(t, in, f)); !sameForms(f, g) {
				t.Fatalf("%v comes back from the product of %v and %v as %v", f, a, b, g)
			}
		}
	}
}

// TestPromise4Gradings checks that gradings are maps, undone by those by the inverse number.
func TestPromise4Gradings(t *testing.T) {
	r := rand.New(rand.NewSource(96))
	some := 0
	for range 1000 {
		a := randomAlgebra(t, r, 8)
		weights := make([]int64, len(a.Degrees))
		for i := range weights {
			weights[i] = r.Int63n(3)
		}
		k := 1 + r.Int63n(impl.FieldPrime-1)
		there, code := impl.GradingMap(a, weights, k)
		if code != impl.ErrNone {
			continue
		}
		back, code := impl.GradingMap(a, weights, inverse(k))
		if code != impl.ErrNone || !impl.IsMap(a, a, there) || !impl.IsMap(a, a, back) {
			t.Fatalf("%v: the gradings by %v and %d are %v and %v", a, weights, k, there, back)
		}
		if both := composed(t, mapping{a, a, there}, mapping{a, a, back}); !sameFormLists(both.m, identityForms(a)) {
			t.Fatalf("%v: the gradings by %v and %d do not undo each other", a, weights, k)
		}
		some++
	}
	if some < 200 {
		t.Errorf("only %d gradings are maps", some)
	}
}
