package tests

import (
	"math/rand"
	"testing"

	"loop.example/g01219/impl"
)

// checkPromise5 checks that a model is minimal, and that its map is a chain map.
func checkPromise5(t *testing.T, x mapping) {
	t.Helper()
	if minimal, code := impl.IsMinimal(x.a); !minimal || code != impl.ErrNone {
		t.Fatalf("the model %v of %v is not minimal: %v, %d", x.a, x.b, minimal, code)
	}
	for _, f := range x.a.Images {
		for _, y := range f.Terms {
			if len(wordOf(y.Monomial)) < 2 {
				t.Fatalf("the model %v of %v has a linear term", x.a, x.b)
			}
		}
	}
	if chain, code := impl.IsChainMap(x.a, x.b, x.m); !chain || code != impl.ErrNone {
		t.Fatalf("the map of the model %v is no chain map: %v, %d", x, chain, code)
	}
	if !impl.IsMap(x.a, x.b, x.m) || !x.isMapByWords() {
		t.Fatalf("the map of the model %v is no map", x)
	}
}

// TestPromise5KnownModels goes through all degrees up to MaxModel.
func TestPromise5KnownModels(t *testing.T) {
	for _, c := range knownModels() {
		for n := int64(2); n <= impl.MaxModel; n++ {
			checkPromise5(t, minimalModel(t, algebra(t, c.a), min(n, c.n)))
		}
	}
}

func TestPromise5(t *testing.T) {
	r := rand.New(rand.NewSource(110))
	some, changed := 0, 0
	for range 600 {
		a, n := simpleAlgebra(t, r, 11, 60), 2+r.Int63n(9)
		b, images, code := impl.MinimalModel(a, n)
		if code != impl.ErrNone {
			continue
		}
		checkPromise5(t, mapping{b, a, images})
		if len(b.Degrees) > 2 {
			some++
		}
		if minimal, _ := impl.IsMinimal(a); !minimal && len(b.Degrees) > 0 {
			changed++
		}
	}
	if some < 100 || changed < 50 {
		t.Errorf("only %d models have more generators, and %d are those of algebras that are not minimal", some, changed)
	}
}

// TestPromise5Images checks that the map of a model leads differentials to differentials.
func TestPromise5Images(t *testing.T) {
	r := rand.New(rand.NewSource(111))
	some := 0
	for range 300 {
		a, n := simpleAlgebra(t, r, 11, 60), 2+r.Int63n(9)
		b, images, code := impl.MinimalModel(a, n)
		if code != impl.ErrNone {
			continue
		}
		f := randomOfDegree(r, b, 2+r.Int63n(8))
		left, one := impl.ImageOfForm(b, a, images, differential(t, b, f))
		g, two := impl.ImageOfForm(b, a, images, f)
		right := differential(t, a, g)
		if one != impl.ErrNone || two != impl.ErrNone || !sameForms(left, right) {
			t.Fatalf("the model %v of %v: the image of d of %v is %v, %d, and d of the image %v, %d", b, a, f, left, one, right, two)
		}
		if len(left.Terms) > 0 {
			some++
		}
	}
	if some < 20 {
		t.Errorf("only %d images are not 0", some)
	}
}
