package tests

import (
	"math/rand"
	"slices"
	"testing"

	"loop.example/g01219/impl"
)

// checkPromise16 checks that the Betti numbers of an algebra with duality read the same backwards, and returns whether it
// has duality of the degree m.
func checkPromise16(t *testing.T, a impl.Algebra, m int64) bool {
	t.Helper()
	yes, code := impl.HasDuality(a, m)
	if code != impl.ErrNone {
		t.Fatalf("HasDuality(%v, %d): code %d", a, m, code)
	}
	if !yes {
		return false
	}
	betti, code := impl.BettiNumbers(a, m)
	backwards := slices.Clone(betti)
	slices.Reverse(backwards)
	if code != impl.ErrNone || !slices.Equal(betti, backwards) {
		t.Fatalf("%v has duality of the degree %d, and the Betti numbers %v, %d", a, m, betti, code)
	}
	if !hasBettiOfDuality(a, m) {
		t.Fatalf("%v has duality of the degree %d, but not the Betti numbers of it", a, m)
	}
	return true
}

func TestPromise16KnownSpaces(t *testing.T) {
	for _, c := range dualityCases() {
		a := algebra(t, c.text)
		for m := range int64(impl.MaxTriple + 1) {
			if yes := checkPromise16(t, a, m); yes != slices.Contains(c.degrees, m) {
				t.Errorf("HasDuality(%q, %d) = %v", c.text, m, yes)
			}
		}
	}
	for _, k := range knownAlgebras() {
		for m := range int64(impl.MaxTriple + 1) {
			checkPromise16(t, algebra(t, k.text), m)
		}
	}
}

func TestPromise16(t *testing.T) {
	r := rand.New(rand.NewSource(149))
	some, others := 0, 0
	for range 500 {
		a := dualAlgebra(t, r, 9, 60)
		if r.Intn(2) == 0 {
			a = smallAlgebra(t, r, 9, 60)
		}
		for m := range int64(10) {
			if yes := checkPromise16(t, a, m); yes && m > 2 {
				some++
			} else if betti := bettiByWords(a, m); !yes && betti == 1 {
				others++
			}
		}
	}
	if some < 100 || others < 100 {
		t.Errorf("%d algebras have duality of a degree of at least 3, and %d not, though the Betti number of the degree is 1", some, others)
	}
}
