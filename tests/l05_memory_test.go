package tests

import (
	"math/rand"
	"slices"
	"testing"

	"loop.example/g01219/impl"
)

// checkModelMemory makes a model twice. Filling one slice of the first one must change neither the argument, nor
// the other slices, nor the second one.
func checkModelMemory(t *testing.T, a impl.Algebra, same func() bool, n int64) {
	t.Helper()
	model, images, _ := impl.MinimalModel(a, n)
	second, secondImages, _ := impl.MinimalModel(a, n)
	want := impl.Algebra{Degrees: slices.Clone(second.Degrees), Images: cloneForms(second.Images)}
	wantImages := cloneForms(secondImages)
	// The forms of both lists are those of one result.
	checkForms(t, "MinimalModel", slices.Concat(model.Images, images))
	overwrite(model.Images, formOf(term(98, 8)))
	overwrite(images, formOf(term(97, 7)))
	if slices.ContainsFunc(model.Images, func(f impl.Form) bool { return f.Terms[0].Factor != 98 }) {
		t.Fatalf("both lists of forms of a model share memory")
	}
	overwrite(model.Degrees, 99)
	if !same() {
		t.Fatalf("MinimalModel changes its argument, or shares memory with it")
	}
	if !sameAlgebras(second, want) || !sameFormLists(secondImages, wantImages) {
		t.Fatalf("MinimalModel shares memory between its results")
	}
}

func TestModelsKeepArguments(t *testing.T) {
	r := rand.New(rand.NewSource(108))
	for range 200 {
		a, same := guardedAlgebra(simpleAlgebra(t, r, 11, 60))
		n := 2 + r.Int63n(9)
		checkModelMemory(t, a, same, n)
		checkNumbersMemory(t, "HomotopyRanks", same, func() ([]int64, int64) { return impl.HomotopyRanks(a, n) })
		impl.HomotopyEuler(a, n)
		if !same() {
			t.Fatalf("a function changes an argument")
		}
	}
	for _, c := range knownModels() {
		a, same := guardedAlgebra(algebra(t, c.a))
		checkModelMemory(t, a, same, c.n)
	}
}

func TestAssignmentsKeepArguments(t *testing.T) {
	r := rand.New(rand.NewSource(109))
	for i := range 300 {
		first := randomAssignment(t, r, 40)
		if i%2 == 0 {
			first = randomMap(t, r, 40)
		}
		x, sameX := guardedMapping(first)
		f, sameF := guardedForm(randomForm(r, x.a.Degrees, 4, 2))
		same := func() bool { return sameX() && sameF() }
		checkMemory(t, "ImageOfForm", same, func() (impl.Form, int64) { return impl.ImageOfForm(x.a, x.b, x.m, f) })
		for j := range x.m {
			g, sameG := guardedForm(generator(j, 1))
			checkMemory(t, "ImageOfForm", func() bool { return same() && sameG() }, func() (impl.Form, int64) {
				return impl.ImageOfForm(x.a, x.b, x.m, g)
			})
		}
		impl.IsChainMap(x.a, x.b, x.m)
		impl.IsModel(x.a, x.b, x.m, 2+r.Int63n(9))
		if !same() {
			t.Fatalf("a function changes an argument")
		}
	}
}

// TestFailuresKeepModels calls functions that end with an error, some of them on the way.
func TestFailuresKeepModels(t *testing.T) {
	list := append(badAlgebras(t), goodAlgebras(t)...)
	for _, text := range []string{eight, lie(1, 1), lie(1, 2), lie(1, 4)} {
		list = append(list, algebra(t, text))
	}
	for _, wanted := range list {
		a, same := guardedAlgebra(wanted)
		for _, n := range []int64{-1, 1, 6, 10, 11} {
			for _, c := range callsOfModels() {
				c.call(a, n)
			}
		}
		if !same() {
			t.Fatalf("a function that fails changes %v", wanted)
		}
	}
	for _, wanted := range append(mappingsOf(t, noAssignments()), mappingsOf(t, otherAssignments())...) {
		x, same := guardedMapping(wanted)
		f, sameF := guardedForm(formOf(term(1, 20, 20, 20), term(20000)))
		for _, n := range []int64{1, 2, 10, 11} {
			for _, c := range callsOfAssignments() {
				c.call(x, n)
			}
		}
		impl.ImageOfForm(x.a, x.b, x.m, f)
		if !same() || !sameF() {
			t.Fatalf("a function that fails changes %v", wanted)
		}
	}
}
