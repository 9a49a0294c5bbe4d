package tests

import (
	"math/rand"
	"slices"
	"testing"

	"loop.example/g01219/impl"
)

// guardedFibration returns a copy of a fibration whose spare capacity would show a change.
func guardedFibration(x fibration) (fibration, func() bool) {
	base, sameBase := guardedAlgebra(x.base)
	parts, sameParts := guardedAlgebra(impl.Algebra{Degrees: x.degrees, Images: x.forms})
	return fibration{base, parts.Degrees, parts.Images}, func() bool { return sameBase() && sameParts() }
}

func checkFibrationMemory(t *testing.T, x fibration) {
	t.Helper()
	x, same := guardedFibration(x)
	checkAlgebraMemory(t, "FibrationOver", same, func() (impl.Algebra, int64) { return impl.FibrationOver(x.base, x.degrees, x.forms) })
}

// TestSpacesShareNoMemory fills the algebras of known spaces, which must not change those that are made later.
func TestSpacesShareNoMemory(t *testing.T) {
	for _, s := range madeSpaces() {
		checkAlgebraMemory(t, s.name, func() bool { return true }, s.call)
		if a := s.algebra(t); !sameAlgebras(a, algebra(t, s.text)) {
			t.Errorf("%s is %v after a result was filled", s.name, a)
		}
	}
}

func TestFibrationsKeepArguments(t *testing.T) {
	for _, c := range goodFibrations() {
		checkFibrationMemory(t, c.fibration(t))
	}
	r := rand.New(rand.NewSource(168))
	for range 500 {
		x := randomFibration(t, r, 6)
		checkFibrationMemory(t, x)
		x.spoil(t, r)
		checkFibrationMemory(t, x)
	}
	for _, a := range badAlgebras(t) {
		checkFibrationMemory(t, fibration{a, []int64{3}, []impl.Form{formOf(term(1, 2))}})
	}
}

// TestOneFormTwice has the same memory for the image of the base and for all forms.
func TestOneFormTwice(t *testing.T) {
	x, same := guardedFibration(fibration{algebra(t, "2:0;3:1*a2"), []int64{3, 3}, make([]impl.Form, 2)})
	before := slices.Clone(x.forms)
	x.forms[0], x.forms[1] = x.base.Images[1], x.base.Images[1]
	call := func() (impl.Algebra, int64) { return impl.FibrationOver(x.base, x.degrees, x.forms) }
	if got, code := call(); !sameAlgebras(got, algebra(t, "2:0;3:1*a2;3:1*a2;3:1*a2")) || code != impl.ErrNone {
		t.Errorf("FibrationOver(%v) = %v, %d", x, got, code)
	}
	checkAlgebraMemory(t, "FibrationOver", func() bool { return sameForms(x.base.Images[1], formOf(term(1, 2))) }, call)
	copy(x.forms, before)
	if !same() {
		t.Error("FibrationOver changes an argument")
	}
}

func TestNumbersKeepArguments(t *testing.T) {
	r := rand.New(rand.NewSource(169))
	for range 500 {
		a, same := guardedAlgebra(anyAlgebra(t, r))
		for _, m := range []int64{-1, 0, r.Int63n(41), 40, 41} {
			checkNumbersMemory(t, "FreeSeries", same, func() ([]int64, int64) { return impl.FreeSeries(a.Degrees, m) })
			checkNumbersMemory(t, "LoopSeries", same, func() ([]int64, int64) { return impl.LoopSeries(a, m) })
			impl.EulerUpTo(a, m/4)
		}
		for _, c := range callsOfAlgebras() {
			c.call(a)
		}
		if !same() {
			t.Fatalf("a function changes %v", a)
		}
	}
}
