package tests

import (
	"math/rand"
	"slices"
	"testing"

	"loop.example/g01219/impl"
)

// guardedAlgebra returns a copy of an algebra whose spare capacity would show a change.
func guardedAlgebra(a impl.Algebra) (impl.Algebra, func() bool) {
	degrees, sameDegrees := guarded(a.Degrees, 99)
	images := make([]impl.Form, 0, len(a.Images)+3)
	checks := []func() bool{sameDegrees}
	for _, f := range a.Images {
		g, same := guardedForm(f)
		images = append(images, g)
		checks = append(checks, same)
	}
	spare := formOf(term(55, 5))
	memory := append(images, spare, spare, spare)
	before := slices.Clone(memory)
	checks = append(checks, func() bool { return slices.EqualFunc(memory, before, sameLists) })
	return impl.Algebra{Degrees: degrees, Images: images}, func() bool {
		return !slices.ContainsFunc(checks, func(same func() bool) bool { return !same() })
	}
}

// sameLists reports whether two forms have the same terms in the same memory.
func sameLists(f, g impl.Form) bool {
	return sameForms(f, g) && cap(f.Terms) == cap(g.Terms) && (cap(f.Terms) == 0 || &f.Terms[:1][0] == &g.Terms[:1][0])
}

// cloneForms copies forms deeply.
func cloneForms(forms []impl.Form) []impl.Form {
	var copied []impl.Form
	for _, f := range forms {
		copied = append(copied, formOf(slices.Clone(f.Terms)...))
	}
	return copied
}

// checkForms checks that no two of the forms of a result share memory, and then overwrites them.
func checkForms(t *testing.T, name string, forms []impl.Form) {
	t.Helper()
	for i := range forms {
		before := cloneForms(forms)
		overwrite(forms[i].Terms, term(99, 9, 9, 9))
		before[i] = forms[i]
		if !slices.EqualFunc(before, forms, sameForms) {
			t.Fatalf("%s: forms of a result share memory", name)
		}
	}
	overwrite(forms, formOf(term(98, 8)))
}

// checkAlgebraMemory calls a function that returns an algebra twice, and fills the first result.
func checkAlgebraMemory(t *testing.T, name string, same func() bool, call func() (impl.Algebra, int64)) {
	t.Helper()
	first, _ := call()
	if !same() {
		t.Fatalf("%s changes an argument", name)
	}
	second, _ := call()
	want := impl.Algebra{Degrees: slices.Clone(second.Degrees), Images: cloneForms(second.Images)}
	checkForms(t, name, first.Images)
	overwrite(first.Degrees, 99)
	if !same() {
		t.Fatalf("%s shares memory with an argument", name)
	}
	if !sameAlgebras(second, want) {
		t.Fatalf("%s shares memory between its results", name)
	}
}

func TestAlgebrasKeepArguments(t *testing.T) {
	r := rand.New(rand.NewSource(60))
	for range 500 {
		a, sameA := guardedAlgebra(randomAlgebra(t, r, 8))
		b, sameB := guardedAlgebra(randomAlgebra(t, r, 8-len(a.Degrees)))
		n := 1 + r.Int63n(5)
		f, sameF := guardedForm(randomForm(r, a.Degrees, 5, 3))
		closed, sameClosed := guardedForm(randomClosed(r, a, n+1))
		same := func() bool { return sameA() && sameB() && sameF() && sameClosed() }
		checkAlgebraMemory(t, "FreeAlgebra", same, func() (impl.Algebra, int64) { return impl.FreeAlgebra(a.Degrees) })
		checkAlgebraMemory(t, "ProductOfAlgebras", same, func() (impl.Algebra, int64) { return impl.ProductOfAlgebras(a, b) })
		checkAlgebraMemory(t, "ProductOfAlgebras turned round", same, func() (impl.Algebra, int64) { return impl.ProductOfAlgebras(b, a) })
		checkAlgebraMemory(t, "WithGenerator", same, func() (impl.Algebra, int64) { return impl.WithGenerator(a, n, closed) })
		text, _ := impl.AlgebraText(a)
		checkAlgebraMemory(t, "ParseAlgebra", same, func() (impl.Algebra, int64) { return impl.ParseAlgebra(text) })
		checkMemory(t, "DifferentialOfForm", same, func() (impl.Form, int64) { return impl.DifferentialOfForm(a, f) })
		checkQuadraticMemory(t, a)
		checkTableMemory(t, a)
		impl.IsAlgebra(a)
		impl.IsClosed(a, f)
		impl.WordLengthOf(a, f)
		impl.IsMinimal(a)
		if ranks, code := impl.RanksOf(a); code == impl.ErrNone {
			overwrite(ranks, 99)
		}
		if !same() {
			t.Fatalf("a function changes or shares an argument")
		}
	}
}

func checkQuadraticMemory(t *testing.T, a impl.Algebra) {
	t.Helper()
	first, _ := impl.QuadraticParts(a)
	second, _ := impl.QuadraticParts(a)
	want := cloneForms(second)
	checkForms(t, "QuadraticParts", first)
	if !slices.EqualFunc(second, want, sameForms) {
		t.Fatalf("QuadraticParts shares memory between its results")
	}
}

func checkTableMemory(t *testing.T, a impl.Algebra) {
	t.Helper()
	table, _ := impl.LinearTable(a)
	for i := range table {
		overwrite(table[i], int64(i+100))
	}
	for i, row := range table {
		if slices.ContainsFunc(row, func(x int64) bool { return x != int64(i+100) }) {
			t.Fatalf("the rows of LinearTable share memory")
		}
	}
}

// TestFailuresKeepAlgebras calls functions that end with an error.
func TestFailuresKeepAlgebras(t *testing.T) {
	list := append(badAlgebras(t), goodAlgebras(t)...)
	for _, x := range list {
		a, same := guardedAlgebra(x)
		f, sameF := guardedForm(formOf(term(1, 20, 20, 20), term(20000)))
		g, sameG := guardedForm(formOf(term(1, 1)))
		for _, y := range list {
			impl.ProductOfAlgebras(a, y)
			impl.ProductOfAlgebras(y, a)
		}
		for _, h := range []impl.Form{f, g} {
			impl.WithGenerator(a, 5, h)
			impl.WithGenerator(a, 0, h)
			impl.DifferentialOfForm(a, h)
			impl.IsClosed(a, h)
			impl.WordLengthOf(a, h)
		}
		impl.IsAlgebra(a)
		impl.LinearTable(a)
		impl.QuadraticParts(a)
		impl.IsMinimal(a)
		impl.RanksOf(a)
		impl.FreeAlgebra(a.Degrees)
		impl.AlgebraText(a)
		if !same() || !sameF() || !sameG() {
			t.Fatalf("a function that fails changes %v", x)
		}
	}
}
