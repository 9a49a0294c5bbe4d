package tests

import (
	"math/rand"
	"slices"
	"testing"

	"loop.example/g01219/impl"
)

// checkSameBetti compares the Betti numbers of two algebras up to a degree n, also those by words.
func checkSameBetti(t *testing.T, name string, a, b impl.Algebra, n int64) {
	t.Helper()
	first, one := impl.BettiNumbers(a, n)
	second, two := impl.BettiNumbers(b, n)
	if one != impl.ErrNone || two != impl.ErrNone || !slices.Equal(first, second) {
		t.Fatalf("%s: the Betti numbers of %v are %v, %d, and those of %v are %v, %d", name, a, first, one, b, second, two)
	}
	for i := range n + 1 {
		if bettiByWords(b, i) != int(first[i]) {
			t.Fatalf("%s: the Betti numbers of %v are not %v", name, b, first)
		}
	}
}

// checkPromise14 checks that the projection of a reduction or contraction is a map that is isomorphic on
// cohomology, and that the Betti numbers stay.
func checkPromise14(t *testing.T, name string, x mapping, n int64) {
	t.Helper()
	checkSameBetti(t, name, x.a, x.b, n)
	if !impl.IsMap(x.a, x.b, x.m) {
		t.Fatalf("%s: %v is no map", name, x)
	}
	if yes, code := impl.IsIsomorphicTo(x.a, x.b, x.m, n); !yes || code != impl.ErrNone {
		t.Fatalf("%s: IsIsomorphicTo(%v, %d) = %v, %d", name, x, n, yes, code)
	}
}

func TestPromise14KnownReductions(t *testing.T) {
	for _, c := range knownReductions() {
		a := algebra(t, c.a)
		n := int64(impl.MaxAsked)
		for mostMonomials(a, n+1) > impl.MaxSide {
			n--
		}
		checkPromise14(t, "ContractPair", contracted(t, a), n)
		checkPromise14(t, "ReduceAlgebra", reduced(t, a), n)
		if got, code := impl.BettiNumbers(a, n); code != impl.ErrNone || c.reduced == "" && slices.Max(got[1:]) != 0 {
			t.Errorf("the Betti numbers of %q are %v, %d", c.a, got, code)
		}
	}
	for _, c := range knownAlgebras() {
		a := algebra(t, c.text)
		checkPromise14(t, "ReduceAlgebra", reduced(t, a), impl.MaxAsked)
		betti := append(slices.Clone(c.betti), make([]int64, impl.MaxAsked+1-len(c.betti))...)
		if got, code := impl.BettiNumbers(reduced(t, a).b, impl.MaxAsked); !slices.Equal(got, betti) || code != impl.ErrNone {
			t.Errorf("the Betti numbers of %q, reduced, are %v, %d", c.text, got, code)
		}
	}
}

func TestPromise14Reductions(t *testing.T) {
	r := rand.New(rand.NewSource(135))
	some := 0
	for range 150 {
		a := entangled(t, r, 8, 60)
		checkPromise14(t, "ContractPair", contracted(t, a), 8)
		checkPromise14(t, "ReduceAlgebra", reduced(t, a), 8)
		if betti, _ := impl.BettiNumbers(a, 8); slices.Max(betti[1:]) > 0 {
			some++
		}
	}
	if some < 50 {
		t.Errorf("only %d algebras have Betti numbers other than 0", some)
	}
}

func TestPromise14Changes(t *testing.T) {
	r := rand.New(rand.NewSource(136))
	some, others := 0, 0
	for range 200 {
		a := smallAlgebra(t, r, 8, 60)
		if r.Intn(2) == 0 {
			a = entangled(t, r, 8, 60)
		}
		if len(a.Degrees) == 0 {
			continue
		}
		i := r.Intn(len(a.Degrees))
		sorted, _, _ := impl.SortGenerators(a)
		checkSameBetti(t, "SortGenerators", a, sorted, 8)
		checkSameBetti(t, "ScaleGenerator", a, scaledBy(t, a, i, 1+r.Int63n(impl.FieldPrime-1)), 8)
		checkSameBetti(t, "ExchangeGenerators", a, exchanged(t, a, randomOrder(r, len(a.Degrees))), 8)
		b, code := impl.ChangeGenerator(a, int64(i), randomChange(r, a, i))
		if code != impl.ErrNone {
			continue
		}
		checkSameBetti(t, "ChangeGenerator", a, b, 8)
		if !sameAlgebras(a, b) {
			others++
		}
		if betti, _ := impl.BettiNumbers(a, 8); slices.Max(betti[1:]) > 0 {
			some++
		}
	}
	if some < 80 || others < 50 {
		t.Errorf("only %d algebras have Betti numbers other than 0, and %d changes lead to other images", some, others)
	}
}
