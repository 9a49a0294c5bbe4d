package tests

import (
	"math/rand"
	"slices"
	"testing"

	"loop.example/g01219/impl"
)

// checkKuenneth checks that the Betti numbers of a product are the convolution of those of its algebras, and returns
// whether there are Betti numbers that come of both.
func checkKuenneth(t *testing.T, a, b impl.Algebra, m int64) bool {
	t.Helper()
	product, code := impl.ProductOfAlgebras(a, b)
	if code != impl.ErrNone {
		t.Fatalf("ProductOfAlgebras(%v, %v): code %d", a, b, code)
	}
	x, one := impl.BettiNumbers(a, m)
	y, two := impl.BettiNumbers(b, m)
	both, three := impl.BettiNumbers(product, m)
	if one != impl.ErrNone || two != impl.ErrNone || three != impl.ErrNone || !slices.Equal(both, convolution(x, y, m)) {
		t.Fatalf("the Betti numbers of %v and %v are %v, %d and %v, %d, and those of the product %v, %d", a, b, x, one, y, two, both, three)
	}
	for n := range both {
		if both[n] > x[n]+y[n] {
			return true
		}
	}
	return false
}

// TestPromise13KnownSpaces has all products of two known spaces within the limits.
func TestPromise13KnownSpaces(t *testing.T) {
	some := 0
	for _, x := range madeSpaces() {
		for _, y := range madeSpaces() {
			a, b := x.algebra(t), y.algebra(t)
			if len(a.Degrees)+len(b.Degrees) > impl.MaxGenerators {
				continue
			}
			if checkKuenneth(t, a, b, 14) {
				some++
			}
			product, _ := impl.ProductOfAlgebras(a, b)
			want := convolution(x.betti, y.betti, 14)
			if got, code := impl.BettiNumbers(product, 14); !slices.Equal(got, want) || code != impl.ErrNone {
				t.Errorf("BettiNumbers of %s and %s = %v, %d, not %v", x.name, y.name, got, code, want)
			}
		}
	}
	if some < 500 {
		t.Errorf("only %d products have Betti numbers that come of both", some)
	}
}

func TestPromise13Products(t *testing.T) {
	r := rand.New(rand.NewSource(170))
	some := 0
	for range 1000 {
		a, b := smallAlgebra(t, r, 8, 30), smallAlgebra(t, r, 8, 30)
		if r.Intn(3) == 0 {
			b = dualAlgebra(t, r, 8, 40)
		}
		product, code := impl.ProductOfAlgebras(a, b)
		if code != impl.ErrNone || mostMonomials(product, 9) > impl.MaxSide {
			continue
		}
		if checkKuenneth(t, a, b, 8) {
			some++
		}
		if n := r.Int63n(7); mostMonomials(product, n+1) <= 40 {
			betti, _ := impl.BettiNumbers(product, n)
			if got := bettiByWords(product, n); int64(got) != betti[n] {
				t.Fatalf("%v has the Betti number %d of the degree %d, not %d", product, betti[n], n, got)
			}
		}
	}
	if some < 100 {
		t.Errorf("only %d products have Betti numbers that come of both", some)
	}
}

// checkRanks checks that the ranks of a map are at most the Betti numbers of both of its algebras, and returns them.
func checkRanks(t *testing.T, x mapping, m int64) []int64 {
	t.Helper()
	a, one := impl.BettiNumbers(x.a, m)
	b, two := impl.BettiNumbers(x.b, m)
	if one != impl.ErrNone || two != impl.ErrNone {
		t.Fatalf("BettiNumbers(%v): codes %d and %d", x, one, two)
	}
	var ranks []int64
	for n := range m + 1 {
		rank, code := impl.MapRank(x.a, x.b, x.m, n)
		if code != impl.ErrNone || rank < 0 || rank > min(a[n], b[n]) {
			t.Fatalf("MapRank(%v, %d) = %d, %d, with the Betti numbers %d and %d", x, n, rank, code, a[n], b[n])
		}
		ranks = append(ranks, rank)
	}
	return ranks
}

func TestPromise13Ranks(t *testing.T) {
	r := rand.New(rand.NewSource(171))
	whole, less := 0, 0
	for range 300 {
		x := randomMap(t, r, 40)
		betti, _ := impl.BettiNumbers(x.a, 9)
		for n, rank := range checkRanks(t, x, 9) {
			switch {
			case n > 0 && rank > 0 && rank == betti[n]:
				whole++
			case n > 0 && rank < betti[n]:
				less++
			}
		}
	}
	for _, c := range goodMaps() {
		if c.a != eight && c.b != eight { // these have too many monomials
			checkRanks(t, c.mapping(t), 9)
		}
	}
	if whole < 100 || less < 100 {
		t.Errorf("%d ranks are Betti numbers, and %d are less", whole, less)
	}
}

// TestPromise13Inclusions checks that the ranks of inclusions into a product, and of projections of it, are the Betti
// numbers of the one algebra, which are at most those of the product.
func TestPromise13Inclusions(t *testing.T) {
	list := []madeSpace{}
	for _, s := range madeSpaces() {
		if s.dimension < 8 {
			list = append(list, s)
		}
	}
	for _, x := range list {
		for _, y := range list {
			a, b := x.algebra(t), y.algebra(t)
			product, code := impl.ProductOfAlgebras(a, b)
			if code != impl.ErrNone {
				continue
			}
			for _, second := range []bool{false, true} {
				own, want := a, x.bettiUpTo(8)
				if second {
					own, want = b, y.bettiUpTo(8)
				}
				inclusion, one := impl.InclusionOf(a, b, second)
				projection, two := impl.ProjectionOf(a, b, second)
				if one != impl.ErrNone || two != impl.ErrNone {
					t.Fatalf("there are no maps of %s and %s: %d, %d", x.name, y.name, one, two)
				}
				for _, m := range []mapping{{own, product, inclusion}, {product, own, projection}} {
					if ranks := checkRanks(t, m, 8); !slices.Equal(ranks, want) {
						t.Errorf("the ranks of %v are %v, not %v", m, ranks, want)
					}
				}
			}
		}
	}
}
