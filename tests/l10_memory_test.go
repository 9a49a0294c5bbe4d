package tests

import (
	"math/rand"
	"testing"

	"loop.example/g01219/impl"
)

// checkAllPages checks the memory of all functions of the chapter.
func checkAllPages(t *testing.T, a impl.Algebra, f impl.Form) {
	t.Helper()
	a, sameA := guardedAlgebra(a)
	f, sameF := guardedForm(f)
	same := func() bool { return sameA() && sameF() }
	for _, n := range []int64{-1, 0, 1, 3, 5, 6, 10, 20, 21} {
		for _, r := range []int64{-1, 0, 2, 3, 20, 21} {
			checkNumbersMemory(t, "PageRow", same, func() ([]int64, int64) { return impl.PageRow(a, r, n) })
			impl.PageDimension(a, r, 1, n)
			impl.DimensionOfF(a, r, n)
		}
		impl.WidthOf(a, n)
		impl.PagesStopAt(a, n)
	}
	checkAlgebraMemory(t, "QuadraticAlgebra", same, func() (impl.Algebra, int64) { return impl.QuadraticAlgebra(a) })
	impl.IsCoformal(a)
	impl.FiltrationOf(a, f)
	if !same() {
		t.Fatal("a function changes an argument")
	}
}

func TestPagesKeepArguments(t *testing.T) {
	r := rand.New(rand.NewSource(225))
	for range 150 {
		a := pageAlgebra(t, r, 60)
		f, _ := closedOther(t, r, a, r.Int63n(21))
		checkAllPages(t, a, f)
	}
	for _, text := range pageTexts() {
		a := algebra(t, text)
		checkAllPages(t, a, formOf(term(3)))
		checkAllPages(t, a, formOf(term(3, 1)))
		for _, f := range a.Images {
			checkAllPages(t, a, f)
		}
	}
}

// TestFailuresKeepPages calls functions that mostly end with an error.
func TestFailuresKeepPages(t *testing.T) {
	r := rand.New(rand.NewSource(226))
	for range 150 {
		a := anyAlgebra(t, r)
		checkAllPages(t, a, anyForm(r, a))
	}
	for _, a := range badAlgebras(t) {
		checkAllPages(t, a, formOf(term(1)))
	}
	for _, text := range otherTexts() {
		checkAllPages(t, algebra(t, text), formOf(term(1, 1)))
	}
	for _, c := range crowdedMinimal(t) {
		checkAllPages(t, c.a, formOf(term(1, 1), term(1)))
	}
}

// TestOneFormInPages has the same memory for the form and an image.
func TestOneFormInPages(t *testing.T) {
	a, same := guardedAlgebra(algebra(t, "2:0;4:0;7:1*a4+1*b2;3:0"))
	checkAlgebraMemory(t, "QuadraticAlgebra", same, func() (impl.Algebra, int64) { return impl.QuadraticAlgebra(a) })
	checkFiltrationCode(t, a, a.Images[2], impl.ErrState)
	f := impl.Form{Terms: a.Images[2].Terms[1:2]}
	if p := filtrationOf(t, a, f); p != 4 || !same() {
		t.Errorf("FiltrationOf(%v, %v) = %d", a, f, p)
	}
}
