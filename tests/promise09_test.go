package tests

import (
	"math/rand"
	"testing"

	"loop.example/g01219/impl"
)

// TestPromise9Brackets checks that brackets are derivations: images have the degrees that the sum of the Drops tells, the
// bracket does to forms what it is told to do to generators, and it follows the rule of products.
func TestPromise9Brackets(t *testing.T) {
	r := rand.New(rand.NewSource(203))
	counts := parities{}
	for range 4000 {
		a := derivable(t, r)
		k, m := twoDrops(r, a, 0)
		s, d := randomDerivation(r, a, k), randomDerivation(r, a, m)
		b := bracket(t, a, s, d)
		if b.Drop != k+m || !isDerivationByWords(a, b) {
			t.Fatalf("%v: the bracket of %v and %v is %v", a, s, d, b)
		}
		f := randomForm(r, a.Degrees, 3, 2)
		first, second := led(t, a, s, led(t, a, d, f)), led(t, a, d, led(t, a, s, f))
		right := sumOf(t, a.Degrees, first, scaled(t, a.Degrees, signed(k*m+1), second))
		if left := led(t, a, b, f); !sameForms(left, right) {
			t.Fatalf("%v: the bracket of %v and %v leads %v to %v, not %v", a, s, d, f, left, right)
		}
		if len(right.Terms) > 0 {
			counts.add(k, m)
		}
	}
	counts.check(t, 60)
}

func TestPromise9BracketsOfProducts(t *testing.T) {
	r := rand.New(rand.NewSource(204))
	some := 0
	for range 4000 {
		a := derivable(t, r)
		k, m := twoDrops(r, a, 0)
		b := bracket(t, a, randomDerivation(r, a, k), randomDerivation(r, a, m))
		f, n := randomPart(r, a.Degrees, 2, 2)
		g, _ := randomPart(r, a.Degrees, 2, 2)
		first := times(t, a.Degrees, led(t, a, b, f), g)
		second := scaled(t, a.Degrees, signed((k+m)*n), times(t, a.Degrees, f, led(t, a, b, g)))
		left, right := led(t, a, b, times(t, a.Degrees, f, g)), sumOf(t, a.Degrees, first, second)
		if !sameForms(left, right) {
			t.Fatalf("%v: the bracket %v leads the product of %v and %v to %v, not %v", a, b, f, g, left, right)
		}
		if len(first.Terms) > 0 && len(second.Terms) > 0 {
			some++
		}
	}
	if some < 50 {
		t.Errorf("only %d products with two parts", some)
	}
}

// TestPromise9Differentials checks that the differential of a differential is 0.
func TestPromise9Differentials(t *testing.T) {
	r := rand.New(rand.NewSource(205))
	counts := map[int64]int{}
	for range 6000 {
		a := derivable(t, r)
		d := randomDerivation(r, a, someDrop(r, a, 2))
		once := lowered(t, a, d)
		if twice := lowered(t, a, once); twice.Drop != d.Drop-2 || !isNothing(twice) {
			t.Fatalf("%v: the differential of the differential of %v is %v", a, d, twice)
		}
		if !isNothing(once) {
			counts[d.Drop%2]++
		}
	}
	if min(counts[0], counts[1]) < 200 {
		t.Errorf("differentials that are not 0, by Drop: %v", counts)
	}
}

// TestPromise9ElementaryDerivations checks the same for all elementary derivations, and all brackets of two of them.
func TestPromise9ElementaryDerivations(t *testing.T) {
	for _, text := range derivableTexts() {
		a := algebra(t, text)
		var list []impl.Derivation
		for k := range int64(impl.MaxWeight + 1) {
			more, code := impl.ElementaryDerivations(a, k)
			if code != impl.ErrNone {
				t.Fatalf("ElementaryDerivations(%q, %d): code %d", text, k, code)
			}
			list = append(list, more...)
		}
		for _, s := range list {
			if s.Drop > 1 && !isNothing(lowered(t, a, lowered(t, a, s))) {
				t.Errorf("%q: the differential of the differential of %v is not 0", text, s)
			}
			for _, d := range list {
				if s.Drop+d.Drop <= impl.MaxWeight {
					got := bracket(t, a, s, d)
					checkDerivation(t, "BracketOf", a, got, impl.ErrNone, bracketByWords(leaderOf(a, s), leaderOf(a, d)))
				}
			}
		}
	}
}
