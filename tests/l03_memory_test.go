package tests

import (
	"math/rand"
	"slices"
	"testing"

	"loop.example/g01219/impl"
)

// checkFormsMemory calls a function that returns forms twice, and fills the first result.
func checkFormsMemory(t *testing.T, name string, same func() bool, call func() ([]impl.Form, int64)) {
	t.Helper()
	first, _ := call()
	if !same() {
		t.Fatalf("%s changes an argument", name)
	}
	second, _ := call()
	want := cloneForms(second)
	checkForms(t, name, first)
	if !same() {
		t.Fatalf("%s shares memory with an argument", name)
	}
	if !slices.EqualFunc(second, want, sameForms) {
		t.Fatalf("%s shares memory between its results", name)
	}
}

// checkNumbersMemory calls a function that returns numbers twice, and fills the first result.
func checkNumbersMemory(t *testing.T, name string, same func() bool, call func() ([]int64, int64)) {
	t.Helper()
	first, _ := call()
	if !same() {
		t.Fatalf("%s changes an argument", name)
	}
	second, _ := call()
	want := slices.Clone(second)
	overwrite(first, 99)
	if !same() {
		t.Fatalf("%s shares memory with an argument", name)
	}
	if !slices.Equal(second, want) {
		t.Fatalf("%s shares memory between its results", name)
	}
}

// checkMatrixMemory fills the rows of a matrix, and what lies behind them, the last one first, so that
// a row that reaches into the next one shows.
func checkMatrixMemory(t *testing.T, same func() bool, call func() ([][]int64, int64)) {
	t.Helper()
	matrix, _ := call()
	if !same() {
		t.Fatalf("MatrixOfD changes an argument")
	}
	second, _ := call()
	var want [][]int64
	for _, row := range second {
		want = append(want, slices.Clone(row))
	}
	for i, row := range slices.Backward(matrix) {
		overwrite(row, int64(i+100))
	}
	for i, row := range matrix {
		if slices.ContainsFunc(row, func(x int64) bool { return x != int64(i+100) }) {
			t.Fatalf("the rows of MatrixOfD share memory")
		}
	}
	if !same() || !sameTables(second, want) {
		t.Fatalf("MatrixOfD shares memory with an argument or another result")
	}
}

func TestCohomologyKeepsArguments(t *testing.T) {
	r := rand.New(rand.NewSource(73))
	for range 300 {
		a, sameA := guardedAlgebra(smallAlgebra(t, r, 10, 60))
		n := r.Int63n(10)
		f, sameF := guardedForm(combination([]int64{3, 5, 7}, append(classForms(t, a, n), make([]impl.Form, 3)...)[:3]))
		g, sameG := guardedForm(randomClosed(r, a, n+1))
		same := func() bool { return sameA() && sameF() && sameG() }
		checkMatrixMemory(t, same, func() ([][]int64, int64) { return impl.MatrixOfD(a, n) })
		checkNumbersMemory(t, "BettiNumbers", same, func() ([]int64, int64) { return impl.BettiNumbers(a, n) })
		checkFormsMemory(t, "ClosedForms", same, func() ([]impl.Form, int64) { return impl.ClosedForms(a, n) })
		checkFormsMemory(t, "BoundaryForms", same, func() ([]impl.Form, int64) { return impl.BoundaryForms(a, n) })
		checkFormsMemory(t, "ClassForms", same, func() ([]impl.Form, int64) { return impl.ClassForms(a, n) })
		for _, h := range []impl.Form{f, g} {
			checkNumbersMemory(t, "ClassOf", same, func() ([]int64, int64) { return impl.ClassOf(a, h) })
			checkMemory(t, "PrimitiveOf", same, func() (impl.Form, int64) { return impl.PrimitiveOf(a, h) })
			impl.IsBoundary(a, h)
		}
		m := r.Int63n(11 - n)
		checkNumbersMemory(t, "ProductOfClasses", same, func() ([]int64, int64) { return impl.ProductOfClasses(a, n, 0, m, 0) })
		impl.RankOfD(a, n)
		impl.LengthOfProducts(a, n)
		if !same() {
			t.Fatalf("a function changes an argument")
		}
	}
}

// TestFailuresKeepCohomology calls functions that end with an error.
func TestFailuresKeepCohomology(t *testing.T) {
	list := append(badAlgebras(t), goodAlgebras(t)...)
	for _, x := range append(list, algebra(t, "2:0;2:0;2:0;2:0;2:0;2:0;2:0;2:0")) {
		a, sameA := guardedAlgebra(x)
		f, sameF := guardedForm(formOf(term(1, 20, 20, 20), term(20000)))
		g, sameG := guardedForm(formOf(term(1, 4)))
		for _, n := range []int64{-1, 8, 20, 21} {
			for _, c := range degreeCalls() {
				c.call(a, n)
			}
			impl.ProductOfClasses(a, n, 50, n, 50)
		}
		for _, c := range formCalls() {
			c.call(a, f)
			c.call(a, g)
		}
		if !sameA() || !sameF() || !sameG() {
			t.Fatalf("a function that fails changes %v", x)
		}
	}
}
