package tests

import (
	"math/rand"
	"slices"
	"testing"

	"loop.example/g01219/impl"
)

// checkPromise10 checks that the dimensions of the pages of a degree do not grow, and that they add up to the Betti number
// at the page where they stop and behind it, and to more ahead of it. It returns where they stop.
func checkPromise10(t *testing.T, a impl.Algebra, n int64) int64 {
	t.Helper()
	numbers, code := impl.BettiNumbers(a, n)
	if code != impl.ErrNone {
		t.Fatalf("BettiNumbers(%v, %d): code %d", a, n, code)
	}
	stop, width := stopOf(t, a, n), widthOf(t, a, n)
	last := pageRow(t, a, 0, n)
	for _, r := range append(numbersTo(stop+2), impl.MaxPage) {
		row := pageRow(t, a, r, n)
		if int64(len(row)) != width+1 {
			t.Fatalf("PageRow(%v, %d, %d) = %v, and the width is %d", a, r, n, row, width)
		}
		for p, k := range row {
			if k < 0 || k > last[p] || k != pageDimension(t, a, r, int64(p), n) {
				t.Fatalf("PageRow(%v, %d, %d) = %v behind %v", a, r, n, row, last)
			}
		}
		if pageDimension(t, a, r, width+1, n) != 0 {
			t.Fatalf("PageDimension(%v, %d, %d, %d) is not 0", a, r, width+1, n)
		}
		if sum := total(row); (sum == numbers[n]) != (r >= stop) || sum < numbers[n] {
			t.Fatalf("PageRow(%v, %d, %d) = %v, and the pages stop at %d; the Betti number is %d", a, r, n, row, stop, numbers[n])
		}
		last = row
	}
	return stop
}

func TestPromise10KnownAlgebras(t *testing.T) {
	for _, text := range pageTexts() {
		for n := range int64(impl.MaxAsked + 1) {
			checkPromise10(t, algebra(t, text), n)
		}
	}
	for _, k := range knownAlgebras() {
		a := algebra(t, k.text)
		for n := range int64(impl.MaxAsked + 1) {
			if isMinimal(a) {
				checkPromise10(t, a, n)
			}
		}
	}
}

func TestPromise10(t *testing.T) {
	r := rand.New(rand.NewSource(227))
	counts := map[int64]int{}
	for range 200 {
		a := pageAlgebra(t, r, 60)
		for n := range int64(impl.MaxAsked + 1) {
			counts[checkPromise10(t, a, n)]++
		}
	}
	if counts[1] != 0 || min(counts[0], counts[2], counts[3], counts[4], counts[5]) < 30 {
		t.Errorf("the numbers at which pages stop: %v", counts)
	}
}

// TestPromise10Models has minimal models, whose pages add up to the Betti numbers of the algebras that they are models of.
func TestPromise10Models(t *testing.T) {
	r := rand.New(rand.NewSource(228))
	some := 0
	for range 150 {
		a := simpleAlgebra(t, r, 7, 60)
		x, images, code := impl.MinimalModel(a, 6)
		if code != impl.ErrNone || mostMonomials(x, 7) > 120 {
			continue
		}
		some++
		for n := range int64(6) {
			row := pageRow(t, x, checkPromise10(t, x, n), n)
			if betti := int64(bettiByWords(a, n)); total(row) != betti {
				t.Fatalf("PageRow(%v, .., %d) = %v, with the images %v in %v; the Betti number is %d", x, n, row, images, a, betti)
			}
		}
	}
	if some < 100 {
		t.Errorf("only %d models", some)
	}
}

// TestPromise10QuadraticAlgebras checks that quadratic algebras are algebras, and coformal.
func TestPromise10QuadraticAlgebras(t *testing.T) {
	r := rand.New(rand.NewSource(229))
	for range 500 {
		a := pageAlgebra(t, r, 120)
		b := quadraticOf(t, a)
		if !impl.IsAlgebra(b) || !isAlgebraByWords(b) || !slices.Equal(a.Degrees, b.Degrees) || !isCoformal(t, b) {
			t.Fatalf("QuadraticAlgebra(%v) = %v", a, b)
		}
	}
}
