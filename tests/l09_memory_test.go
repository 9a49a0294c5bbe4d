package tests

import (
	"math/rand"
	"slices"
	"testing"

	"loop.example/g01219/impl"
)

// guardedDerivation returns a copy of a derivation whose spare capacity would show a change.
func guardedDerivation(d impl.Derivation) (impl.Derivation, func() bool) {
	images, same := guardedForms(d.Images)
	return impl.Derivation{Drop: d.Drop, Images: images}, same
}

// checkDerivationsMemory calls a function that returns derivations twice, and fills the first result. No two forms of it, of
// the same derivation or of different ones, may share memory, nor may two lists of images.
func checkDerivationsMemory(t *testing.T, name string, same func() bool, call func() ([]impl.Derivation, int64)) {
	t.Helper()
	first, _ := call()
	if !same() {
		t.Fatalf("%s changes an argument", name)
	}
	second, _ := call()
	var want [][]impl.Form
	var forms []impl.Form
	for i, d := range second {
		want = append(want, cloneForms(d.Images))
		forms = append(forms, first[i].Images...)
	}
	checkForms(t, name, forms)
	for i, d := range slices.Backward(first) {
		overwrite(d.Images, formOf(term(int64(i+100), 8)))
	}
	for i, d := range first {
		if slices.ContainsFunc(d.Images, func(f impl.Form) bool { return f.Terms[0].Factor != int64(i+100) }) {
			t.Fatalf("%s: lists of images share memory", name)
		}
	}
	overwrite(first, impl.Derivation{Drop: 99})
	if !same() {
		t.Fatalf("%s shares memory with an argument", name)
	}
	for i, d := range second {
		if !sameFormLists(d.Images, want[i]) {
			t.Fatalf("%s shares memory between its results", name)
		}
	}
}

func checkDerivationMemory(t *testing.T, name string, same func() bool, call func() (impl.Derivation, int64)) {
	t.Helper()
	checkDerivationsMemory(t, name, same, func() ([]impl.Derivation, int64) {
		d, code := call()
		return []impl.Derivation{d}, code
	})
}

// checkAllDerivations checks the memory of all functions that take derivations.
func checkAllDerivations(t *testing.T, a impl.Algebra, s, d impl.Derivation, f impl.Form) {
	t.Helper()
	a, sameA := guardedAlgebra(a)
	s, sameS := guardedDerivation(s)
	d, sameD := guardedDerivation(d)
	f, sameF := guardedForm(f)
	same := func() bool { return sameA() && sameS() && sameD() && sameF() }
	checkMemory(t, "ApplyDerivation", same, func() (impl.Form, int64) { return impl.ApplyDerivation(a, s, f) })
	checkDerivationMemory(t, "AddDerivations", same, func() (impl.Derivation, int64) { return impl.AddDerivations(a, s, d) })
	checkDerivationMemory(t, "AddDerivations of one", same, func() (impl.Derivation, int64) { return impl.AddDerivations(a, s, s) })
	nothing := zeroDerivation(a, s.Drop)
	checkDerivationMemory(t, "AddDerivations of 0", same, func() (impl.Derivation, int64) { return impl.AddDerivations(a, s, nothing) })
	checkDerivationMemory(t, "AddDerivations with 0", same, func() (impl.Derivation, int64) { return impl.AddDerivations(a, nothing, s) })
	checkDerivationMemory(t, "BracketOf", same, func() (impl.Derivation, int64) { return impl.BracketOf(a, s, d) })
	checkDerivationMemory(t, "BracketOf of one", same, func() (impl.Derivation, int64) { return impl.BracketOf(a, s, s) })
	checkDerivationMemory(t, "DifferentialOfDerivation", same, func() (impl.Derivation, int64) { return impl.DifferentialOfDerivation(a, s) })
	impl.IsDerivation(a, s)
	for _, k := range []int64{-1, 0, 1, 2, 3, 12, 13} {
		checkDerivationsMemory(t, "ElementaryDerivations", same, func() ([]impl.Derivation, int64) { return impl.ElementaryDerivations(a, k) })
		checkTablesMemory(t, "MatrixOfDrop", same, func() ([][]int64, int64) { return impl.MatrixOfDrop(a, k) })
		impl.HomologyRank(a, k)
	}
	checkTablesMemory(t, "ConstantsOf", same, func() ([][]int64, int64) { return impl.ConstantsOf(a) })
	if !same() {
		t.Fatal("a function changes an argument")
	}
}

func TestDerivationsKeepArguments(t *testing.T) {
	r := rand.New(rand.NewSource(201))
	for range 500 {
		a := derivable(t, r)
		k, m := twoDrops(r, a, 0)
		if r.Intn(2) == 0 {
			m = k
		}
		checkAllDerivations(t, a, randomDerivation(r, a, k), randomDerivation(r, a, m), randomForm(r, a.Degrees, 4, 3))
	}
	for _, c := range goodDerivations() {
		a, d := c.parts(t)
		checkAllDerivations(t, a, d, d, generator(0, 1))
	}
}

// TestFailuresKeepDerivations calls functions that mostly end with an error.
func TestFailuresKeepDerivations(t *testing.T) {
	r := rand.New(rand.NewSource(202))
	for range 500 {
		a := anyAlgebra(t, r)
		checkAllDerivations(t, a, anyDerivation(t, r, a), anyDerivation(t, r, a), formOf(term(1, 20, 20), term(20000)))
	}
	for _, c := range otherDerivations() {
		a, d := c.parts(t)
		checkAllDerivations(t, a, d, d, formOf(term(1)))
	}
	for _, a := range badAlgebras(t) {
		checkAllDerivations(t, a, zeroDerivation(a, 1), zeroDerivation(a, 2), impl.Form{})
	}
	a := algebra(t, sevenAndOne)
	wide := someMonomials(a.Degrees[:7], 12, 0, 400, 1)
	checkAllDerivations(t, a, ledLast(a, 0, wide), ledLast(a, 0, someMonomials(a.Degrees[:7], 12, 1, 401, 5)), wide)
	checkAllDerivations(t, a, ledLast(a, 12, formOf(term(1))), ledLast(a, 12, formOf(term(1))), wide)
}

// TestOneFormInDerivations has the same memory for images of the algebra and of both derivations, and for the form.
func TestOneFormInDerivations(t *testing.T) {
	a, sameA := guardedAlgebra(algebra(t, "2:0;5:1*a3;6:0"))
	f := a.Images[1]
	s := impl.Derivation{Drop: 0, Images: []impl.Form{{}, {}, f}}
	same := func() bool { return sameA() && sameForms(f, formOf(term(1, 3))) }
	checkMemory(t, "ApplyDerivation", same, func() (impl.Form, int64) { return impl.ApplyDerivation(a, s, f) })
	checkDerivationMemory(t, "AddDerivations", same, func() (impl.Derivation, int64) { return impl.AddDerivations(a, s, s) })
	checkDerivationMemory(t, "BracketOf", same, func() (impl.Derivation, int64) { return impl.BracketOf(a, s, s) })
	if sum := added(t, a, s, s); !sameForms(sum.Images[2], formOf(term(2, 3))) {
		t.Errorf("the sum is %v", sum)
	}
	s.Drop = 6
	s.Images = []impl.Form{{}, {}, formOf(term(1))}
	checkDerivationMemory(t, "DifferentialOfDerivation", same, func() (impl.Derivation, int64) { return impl.DifferentialOfDerivation(a, s) })
}
