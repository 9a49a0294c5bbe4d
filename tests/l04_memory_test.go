package tests

import (
	"math/rand"
	"slices"
	"testing"

	"loop.example/g01219/impl"
)

// guardedForms returns copies of forms, in a list and with terms whose spare capacity would show a
// change.
func guardedForms(forms []impl.Form) ([]impl.Form, func() bool) {
	a, same := guardedAlgebra(impl.Algebra{Images: forms})
	return a.Images, same
}

// guardedMapping returns a copy of a map with its algebras whose spare capacity would show a change.
func guardedMapping(x mapping) (mapping, func() bool) {
	a, sameA := guardedAlgebra(x.a)
	b, sameB := guardedAlgebra(x.b)
	m, sameM := guardedForms(x.m)
	return mapping{a, b, m}, func() bool { return sameA() && sameB() && sameM() }
}

// checkTablesMemory calls a function that returns a table twice. It fills the rows of the first one, and
// what lies behind them, the last one first, so that a row that reaches into the next one shows.
func checkTablesMemory(t *testing.T, name string, same func() bool, call func() ([][]int64, int64)) {
	t.Helper()
	first, _ := call()
	second, _ := call()
	var want [][]int64
	for _, row := range second {
		want = append(want, slices.Clone(row))
	}
	for i, row := range slices.Backward(first) {
		overwrite(row, int64(i+100))
	}
	for i, row := range first {
		if slices.ContainsFunc(row, func(x int64) bool { return x != int64(i+100) }) {
			t.Fatalf("the rows of %s share memory", name)
		}
	}
	overwrite(first, nil)
	if !same() || !sameTables(second, want) {
		t.Fatalf("%s changes or shares an argument, or shares memory with another result", name)
	}
}

func TestMapsKeepArguments(t *testing.T) {
	r := rand.New(rand.NewSource(90))
	for range 300 {
		first := randomMap(t, r, 40)
		x, sameX := guardedMapping(first)
		y, sameY := guardedMapping(randomMapping(r, first.b, randomTarget(t, r, first.b, 40)))
		f, sameF := guardedForm(randomForm(r, x.a.Degrees, 4, 2))
		same := func() bool { return sameX() && sameY() && sameF() }
		checkMemory(t, "ApplyMap", same, func() (impl.Form, int64) { return impl.ApplyMap(x.a, x.b, x.m, f) })
		checkFormsMemory(t, "ComposeMaps", same, func() ([]impl.Form, int64) { return impl.ComposeMaps(x.a, x.b, y.b, x.m, y.m) })
		checkTablesMemory(t, "LinearTableOfMap", same, func() ([][]int64, int64) { return impl.LinearTableOfMap(x.a, x.b, x.m) })
		n := r.Int63n(10)
		checkTablesMemory(t, "MapMatrix", same, func() ([][]int64, int64) { return impl.MapMatrix(x.a, x.b, x.m, n) })
		impl.IsMap(x.a, x.b, x.m)
		impl.MapRank(x.a, x.b, x.m, n)
		impl.IsIsomorphicTo(x.a, x.b, x.m, n)
		if !same() {
			t.Fatalf("a function changes an argument")
		}
	}
}

func TestMakersOfMapsKeepArguments(t *testing.T) {
	r := rand.New(rand.NewSource(91))
	for range 300 {
		a, sameA := guardedAlgebra(randomAlgebra(t, r, 8))
		b, sameB := guardedAlgebra(randomAlgebra(t, r, 8-len(a.Degrees)))
		weights, sameWeights := guarded(make([]int64, len(a.Degrees)), 99)
		same := func() bool { return sameA() && sameB() && sameWeights() }
		checkFormsMemory(t, "IdentityMap", same, func() ([]impl.Form, int64) { return impl.IdentityMap(a) })
		for _, second := range []bool{false, true} {
			checkFormsMemory(t, "InclusionOf", same, func() ([]impl.Form, int64) { return impl.InclusionOf(a, b, second) })
			checkFormsMemory(t, "ProjectionOf", same, func() ([]impl.Form, int64) { return impl.ProjectionOf(a, b, second) })
		}
		checkFormsMemory(t, "GradingMap", same, func() ([]impl.Form, int64) { return impl.GradingMap(a, weights, 5) })
	}
}

// TestImagesAreCopies has maps that lead a form to one of their own forms, or to itself.
func TestImagesAreCopies(t *testing.T) {
	for _, c := range goodMaps() {
		x, same := guardedMapping(c.mapping(t))
		for i := range x.m {
			f, sameF := guardedForm(generator(i, 1))
			checkMemory(t, "ApplyMap", func() bool { return same() && sameF() }, func() (impl.Form, int64) { return impl.ApplyMap(x.a, x.b, x.m, f) })
			checkMemory(t, "ApplyMap", func() bool { return same() && sameF() }, func() (impl.Form, int64) {
				return impl.ApplyMap(x.a, x.a, identityForms(x.a), f)
			})
		}
		checkFormsMemory(t, "ComposeMaps", same, func() ([]impl.Form, int64) {
			return impl.ComposeMaps(x.a, x.b, x.b, x.m, identityForms(x.b))
		})
		checkFormsMemory(t, "ComposeMaps", same, func() ([]impl.Form, int64) {
			return impl.ComposeMaps(x.a, x.a, x.b, identityForms(x.a), x.m)
		})
	}
}

// TestFailuresKeepMaps calls functions that end with an error.
func TestFailuresKeepMaps(t *testing.T) {
	list := append(mappingsOf(t, goodMaps()), invalidMappings(t)...)
	for _, c := range crowded() {
		list = append(list, zeroMaps(algebra(t, c.text))...)
	}
	for _, wanted := range list {
		x, same := guardedMapping(wanted)
		f, sameF := guardedForm(formOf(term(1, 20, 20, 20), term(20000)))
		g, sameG := guardedForm(formOf(term(1, 20)))
		weights, sameWeights := guarded([]int64{1, 2000}, 99)
		for _, n := range []int64{-1, 19, 20, 21} {
			for _, c := range callsOfMaps() {
				c.call(x, n)
			}
		}
		impl.ApplyMap(x.a, x.b, x.m, f)
		impl.ApplyMap(x.a, x.b, x.m, g)
		impl.GradingMap(x.a, weights, 3)
		impl.GradingMap(x.a, weights[:1], 3)
		impl.InclusionOf(x.a, x.b, true)
		impl.ProjectionOf(x.a, x.b, true)
		impl.IdentityMap(x.a)
		if !same() || !sameF() || !sameG() || !sameWeights() {
			t.Fatalf("a function that fails changes %v", wanted)
		}
	}
}
