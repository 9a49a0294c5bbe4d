package tests

import (
	"math/rand"
	"testing"

	"loop.example/g01219/impl"
)

// guardedTriad returns a copy of a triad whose spare capacity would show a change.
func guardedTriad(c triad) (triad, func() bool) {
	a, sameA := guardedAlgebra(c.a)
	x, sameX := guardedForm(c.x)
	y, sameY := guardedForm(c.y)
	z, sameZ := guardedForm(c.z)
	return triad{a, x, y, z}, func() bool { return sameA() && sameX() && sameY() && sameZ() }
}

func checkTripleMemory(t *testing.T, c triad, same func() bool) {
	t.Helper()
	checkFormsMemory(t, "TripleParts", same, func() ([]impl.Form, int64) { return impl.TripleParts(c.a, c.x, c.y, c.z) })
	checkMemory(t, "TripleForm", same, func() (impl.Form, int64) { return impl.TripleForm(c.a, c.x, c.y, c.z) })
	checkTablesMemory(t, "Indeterminacy", same, func() ([][]int64, int64) { return impl.Indeterminacy(c.a, c.x, c.y, c.z) })
	checkNumbersMemory(t, "TripleClass", same, func() ([]int64, int64) { return impl.TripleClass(c.a, c.x, c.y, c.z) })
}

func checkTablesKeep(t *testing.T, a impl.Algebra, same func() bool, n, m int64) {
	t.Helper()
	checkTablesMemory(t, "ProductTable", same, func() ([][]int64, int64) { return impl.ProductTable(a, n, m) })
	checkNumbersMemory(t, "FirstTriple", same, func() ([]int64, int64) { return impl.FirstTriple(a, n+m) })
	if impl.HasDuality(a, n+m); !same() {
		t.Fatalf("HasDuality changes its argument")
	}
}

func TestTriplesKeepArguments(t *testing.T) {
	r := rand.New(rand.NewSource(145))
	for range 600 {
		c, same := guardedTriad(randomTriad(t, r, 10))
		checkTripleMemory(t, c, same)
		checkTablesKeep(t, c.a, same, r.Int63n(5), r.Int63n(5))
	}
	for _, k := range knownTriples() {
		c, same := guardedTriad(k.triad(t))
		checkTripleMemory(t, c, same)
		checkTablesKeep(t, c.a, same, 2, 3)
	}
}

// TestOneFormThreeTimes has the same memory for all three forms, and u and v of the same product.
func TestOneFormThreeTimes(t *testing.T) {
	for text, f := range map[string]string{heisenberg: "3*a+2*b", "2:0;3:1*a2": "5*a", twoSquares: "1*a+7*b", evenThird: "4*b", "3:1*b2;2:0": "1*b2"} {
		a := algebra(t, text)
		c, same := guardedTriad(triad{a, parse(t, a.Degrees, f), impl.Form{}, impl.Form{}})
		c.y, c.z = c.x, c.x
		checkTripleMemory(t, c, same)
		if found := checkTriple(t, c); found.code != impl.ErrNone {
			t.Errorf("%q: the triple product of %q three times has the code %d", text, f, found.code)
		}
	}
}

// TestFailuresKeepTriples calls functions that end with an error.
func TestFailuresKeepTriples(t *testing.T) {
	list := append(badAlgebras(t), goodAlgebras(t)...)
	for _, c := range narrow() {
		list = append(list, algebra(t, c.text))
	}
	for _, a := range list {
		for _, forms := range [][3]impl.Form{
			{formOf(term(1, 20, 20, 20), term(20000)), formOf(term(1)), formOf(term(1))},
			{formOf(term(1, 1)), formOf(term(1, 0, 1)), formOf(term(1, 1))},
			{formOf(term(1, 7)), formOf(term(1, 0, 0, 0, 1)), formOf(term(3))},
			{formOf(term(1, 20), term(2)), formOf(term(1, 2)), {}},
		} {
			c, same := guardedTriad(triad{a, forms[0], forms[1], forms[2]})
			checkTripleMemory(t, c, same)
			for _, n := range []int64{-1, 7, 15} {
				for _, call := range callsUpTo() {
					call.call(c.a, n)
				}
				impl.ProductTable(c.a, n, n)
			}
			if !same() {
				t.Fatalf("a function that fails changes %v", a)
			}
		}
	}
}
