package tests

import (
	"math/rand"
	"slices"
	"testing"

	"loop.example/g01219/impl"
)

// checkFormsWithAlgebraMemory calls a function that returns an algebra with the forms of a map twice. Filling one
// slice of the first result must change neither the argument, nor the other slices, nor the second result.
func checkFormsWithAlgebraMemory(t *testing.T, name string, same func() bool, call func() (impl.Algebra, []impl.Form, int64)) {
	t.Helper()
	first, m, _ := call()
	second, k, _ := call()
	want := impl.Algebra{Degrees: slices.Clone(second.Degrees), Images: cloneForms(second.Images)}
	wantForms := cloneForms(k)
	// The forms of both lists are those of one result.
	checkForms(t, name, slices.Concat(first.Images, m))
	overwrite(first.Images, formOf(term(98, 8)))
	overwrite(m, formOf(term(97, 7)))
	if slices.ContainsFunc(first.Images, func(f impl.Form) bool { return f.Terms[0].Factor != 98 }) {
		t.Fatalf("both lists of forms of %s share memory", name)
	}
	overwrite(first.Degrees, 99)
	if !same() {
		t.Fatalf("%s changes its argument, or shares memory with it", name)
	}
	if !sameAlgebras(second, want) || !sameFormLists(k, wantForms) {
		t.Fatalf("%s shares memory between its results", name)
	}
}

func checkModelMemory(t *testing.T, a impl.Algebra, same func() bool, n int64) {
	t.Helper()
	checkFormsWithAlgebraMemory(t, "MinimalModel", same, func() (impl.Algebra, []impl.Form, int64) { return impl.MinimalModel(a, n) })
}

func TestModelsKeepArguments(t *testing.T) {
	r := rand.New(rand.NewSource(108))
	for range 200 {
		a, same := guardedAlgebra(simpleAlgebra(t, r, 11, 60))
		n := 2 + r.Int63n(9)
		checkModelMemory(t, a, same, n)
		checkNumbersMemory(t, "HomotopyRanks", same, func() ([]int64, int64) { return impl.HomotopyRanks(a, n) })
		impl.HomotopyEuler(a, n)
		if !same() {
			t.Fatalf("a function changes an argument")
		}
	}
	for _, c := range knownModels() {
		a, same := guardedAlgebra(algebra(t, c.a))
		checkModelMemory(t, a, same, c.n)
	}
}

func TestAssignmentsKeepArguments(t *testing.T) {
	r := rand.New(rand.NewSource(109))
	for i := range 300 {
		first := randomAssignment(t, r, 40)
		if i%2 == 0 {
			first = randomMap(t, r, 40)
		}
		x, sameX := guardedMapping(first)
		f, sameF := guardedForm(randomForm(r, x.a.Degrees, 4, 2))
		same := func() bool { return sameX() && sameF() }
		checkMemory(t, "ImageOfForm", same, func() (impl.Form, int64) { return impl.ImageOfForm(x.a, x.b, x.m, f) })
		for j := range x.m {
			g, sameG := guardedForm(generator(j, 1))
			checkMemory(t, "ImageOfForm", func() bool { return same() && sameG() }, func() (impl.Form, int64) {
				return impl.ImageOfForm(x.a, x.b, x.m, g)
			})
		}
		impl.IsChainMap(x.a, x.b, x.m)
		impl.IsModel(x.a, x.b, x.m, 2+r.Int63n(9))
		if !same() {
			t.Fatalf("a function changes an argument")
		}
	}
}

// TestFailuresKeepModels calls functions that end with an error, some of them on the way.
func TestFailuresKeepModels(t *testing.T) {
	list := append(badAlgebras(t), goodAlgebras(t)...)
	for _, text := range []string{eight, lie(1, 1), lie(1, 2), lie(1, 4)} {
		list = append(list, algebra(t, text))
	}
	for _, wanted := range list {
		a, same := guardedAlgebra(wanted)
		for _, n := range []int64{-1, 1, 6, 10, 11} {
			for _, c := range callsOfModels() {
				c.call(a, n)
			}
		}
		if !same() {
			t.Fatalf("a function that fails changes %v", wanted)
		}
	}
	for _, wanted := range append(mappingsOf(t, noAssignments()), mappingsOf(t, otherAssignments())...) {
		x, same := guardedMapping(wanted)
		f, sameF := guardedForm(formOf(term(1, 20, 20, 20), term(20000)))
		for _, n := range []int64{1, 2, 10, 11} {
			for _, c := range callsOfAssignments() {
				c.call(x, n)
			}
		}
		impl.ImageOfForm(x.a, x.b, x.m, f)
		if !same() || !sameF() {
			t.Fatalf("a function that fails changes %v", wanted)
		}
	}
}
