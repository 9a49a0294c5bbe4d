package tests

import (
	"math/rand"
	"slices"
	"testing"

	"loop.example/g01219/impl"
)

// TestPromise17 checks that the differential of a sum is the sum of the differentials, and that of a multiple the
// multiple.
func TestPromise17(t *testing.T) {
	r := rand.New(rand.NewSource(206))
	counts := map[int64]int{}
	for range 4000 {
		a := derivable(t, r)
		drop := someDrop(r, a, 1)
		s, d := randomDerivation(r, a, drop), randomDerivation(r, a, drop)
		left, right := lowered(t, a, added(t, a, s, d)), added(t, a, lowered(t, a, s), lowered(t, a, d))
		if left.Drop != drop-1 || !sameDerivations(left, right) {
			t.Fatalf("%v: the differential of the sum of %v and %v is %v, not %v", a, s, d, left, right)
		}
		k := r.Int63n(impl.FieldPrime)
		if left, right := lowered(t, a, multiple(k, s)), multiple(k, lowered(t, a, s)); !sameDerivations(left, right) {
			t.Fatalf("%v: the differential of %d times %v is %v, not %v", a, k, s, left, right)
		}
		if !isNothing(lowered(t, a, s)) && !isNothing(lowered(t, a, d)) {
			counts[drop%2]++
		}
	}
	if min(counts[0], counts[1]) < 100 {
		t.Errorf("pairs of differentials that are not 0, by Drop: %v", counts)
	}
}

// TestPromise17Cancellations checks that the differential of a sum that is 0, and of one whose differentials cancel, is 0.
func TestPromise17Cancellations(t *testing.T) {
	r := rand.New(rand.NewSource(207))
	for range 2000 {
		a := derivable(t, r)
		drop := someDrop(r, a, 1)
		s := randomDerivation(r, a, drop)
		if sum := added(t, a, s, multiple(impl.FieldPrime-1, s)); !isNothing(sum) || !isNothing(lowered(t, a, sum)) {
			t.Fatalf("%v: %v less itself is %v", a, s, sum)
		}
		if drop == impl.MaxWeight {
			continue
		}
		closed := lowered(t, a, randomDerivation(r, a, drop+1))
		if left, right := lowered(t, a, added(t, a, s, closed)), lowered(t, a, s); !sameDerivations(left, right) {
			t.Fatalf("%v: a differential that is added to %v makes its differential %v, not %v", a, s, left, right)
		}
	}
}

// TestPromise17Images checks the same with the functions of chapter 2: both parts of a differential go along with sums.
func TestPromise17Images(t *testing.T) {
	r := rand.New(rand.NewSource(208))
	for range 1000 {
		a := derivable(t, r)
		drop := someDrop(r, a, 1)
		sum := impl.Derivation{Drop: drop, Images: make([]impl.Form, len(a.Degrees))}
		want := impl.Derivation{Drop: drop - 1, Images: make([]impl.Form, len(a.Degrees))}
		for range 3 {
			s := randomDerivation(r, a, drop)
			sum = added(t, a, sum, s)
			for i, f := range s.Images {
				part := sumOf(t, a.Degrees, differential(t, a, f), scaled(t, a.Degrees, signed(drop+1), led(t, a, s, a.Images[i])))
				want.Images[i] = sumOf(t, a.Degrees, want.Images[i], part)
			}
		}
		if got := lowered(t, a, sum); !sameDerivations(got, want) {
			t.Fatalf("%v: the differential of %v is %v, not %v", a, sum, got, want)
		}
	}
}

// TestPromise17Matrices checks that the differential of a sum of elementary derivations is what their rows of the matrix
// add up to.
func TestPromise17Matrices(t *testing.T) {
	for _, text := range derivableTexts() {
		a := algebra(t, text)
		for drop := int64(1); drop <= impl.MaxWeight; drop++ {
			matrix, first := impl.MatrixOfDrop(a, drop)
			list, second := impl.ElementaryDerivations(a, drop)
			lower, third := impl.ElementaryDerivations(a, drop-1)
			if !slices.Equal([]int64{first, second, third}, make([]int64, 3)) {
				t.Fatalf("%q and the Drop %d: codes %d, %d and %d", text, drop, first, second, third)
			}
			sum, want := zeroDerivation(a, drop), zeroDerivation(a, drop-1)
			for i, d := range list {
				sum = added(t, a, sum, multiple(int64(i+1), d))
				for j, x := range matrix[i] {
					want = added(t, a, want, multiple(int64(i+1)*x%impl.FieldPrime, lower[j]))
				}
			}
			if got := lowered(t, a, sum); !sameDerivations(got, want) {
				t.Errorf("%q: the differential of %v is %v, not %v", text, sum, got, want)
			}
		}
	}
}
