package tests

import (
	"math/rand"
	"slices"
	"testing"

	"loop.example/g01219/impl"
)

// guardedForm returns a copy of a form whose spare capacity would show a change.
func guardedForm(f impl.Form) (impl.Form, func() bool) {
	terms, same := guarded(f.Terms, term(77, 7, 7, 7))
	return impl.Form{Terms: terms}, same
}

// checkMemory calls a function that returns a form twice. Filling the first result must change
// neither the arguments nor the second result.
func checkMemory(t *testing.T, name string, same func() bool, call func() (impl.Form, int64)) {
	t.Helper()
	first, _ := call()
	if !same() {
		t.Fatalf("%s changes an argument", name)
	}
	second, _ := call()
	want := slices.Clone(second.Terms)
	overwrite(first.Terms, term(99, 9, 9, 9))
	if !same() {
		t.Fatalf("%s shares memory with an argument", name)
	}
	if !slices.Equal(second.Terms, want) {
		t.Fatalf("%s shares memory between its results", name)
	}
}

func TestFormsKeepArguments(t *testing.T) {
	r := rand.New(rand.NewSource(10))
	for range 500 {
		degrees, sameDegrees := guarded(randomDegrees(r), 99)
		f, sameF := guardedForm(randomForm(r, degrees, 5, 10))
		g, sameG := guardedForm(randomForm(r, degrees, 5, 10))
		if r.Intn(4) == 0 {
			g, sameG = guardedForm(impl.Form{})
		}
		same := func() bool { return sameDegrees() && sameF() && sameG() }
		n, _ := impl.DegreeOfForm(degrees, formOf(f.Terms[:min(1, len(f.Terms))]...))
		checkMemory(t, "AddForms", same, func() (impl.Form, int64) { return impl.AddForms(degrees, f, g) })
		checkMemory(t, "AddForms turned round", same, func() (impl.Form, int64) { return impl.AddForms(degrees, g, f) })
		checkMemory(t, "MultiplyForms", same, func() (impl.Form, int64) { return impl.MultiplyForms(degrees, f, g) })
		for _, k := range []int64{0, 1, 2, 10006} {
			checkMemory(t, "ScaleForm", same, func() (impl.Form, int64) { return impl.ScaleForm(degrees, k, f) })
		}
		checkMemory(t, "PartOfForm", same, func() (impl.Form, int64) { return impl.PartOfForm(degrees, f, max(n, 0)) })
		checkMemory(t, "ParseForm", same, func() (impl.Form, int64) { return impl.ParseForm(degrees, "3*1") })
		checkOthers(degrees, f, n)
		if !same() {
			t.Fatalf("a function changes an argument")
		}
	}
}

// checkOthers calls the functions whose results have no memory of their own.
func checkOthers(degrees []int64, f impl.Form, n int64) {
	impl.AreDegrees(degrees)
	impl.IsForm(degrees, f)
	impl.DegreeOfForm(degrees, f)
	impl.FormText(degrees, f)
	for _, t := range f.Terms {
		impl.IsMonomial(degrees, t.Monomial)
		impl.DegreeOfMonomial(degrees, t.Monomial)
		impl.MultiplyMonomials(degrees, t.Monomial, f.Terms[0].Monomial)
	}
}

func TestMonomialsOfKeepsArguments(t *testing.T) {
	r := rand.New(rand.NewSource(11))
	for range 500 {
		degrees, same := guarded(randomDegrees(r), 99)
		n := r.Int63n(41)
		first, _ := impl.MonomialsOf(degrees, n)
		second, _ := impl.MonomialsOf(degrees, n)
		want := slices.Clone(second)
		overwrite(first, impl.Monomial{9, 9})
		if !same() || !slices.Equal(second, want) {
			t.Fatalf("MonomialsOf(%v, %d) shares or changes memory", degrees, n)
		}
	}
}

// TestFailuresKeepArguments calls functions that end with an error.
func TestFailuresKeepArguments(t *testing.T) {
	degrees, sameDegrees := guarded([]int64{2, 2}, 99)
	f, sameF := guardedForm(grid(400, 5))
	g, sameG := guardedForm(formOf(grid(441, 3).Terms[400:]...))
	bad, sameBad := guardedForm(formOf(term(1, 1), term(1, 2), term(20000)))
	for _, x := range []impl.Form{f, g, bad} {
		for _, y := range []impl.Form{f, g, bad} {
			impl.AddForms(degrees, x, y)
			impl.MultiplyForms(degrees, x, y)
		}
		impl.ScaleForm(degrees, -1, x)
		impl.PartOfForm(degrees, x, -1)
		impl.IsForm(degrees, x)
		impl.DegreeOfForm(degrees, x)
		impl.FormText(degrees, x)
	}
	if !sameDegrees() || !sameF() || !sameG() || !sameBad() {
		t.Errorf("a function that fails changes an argument")
	}
}
