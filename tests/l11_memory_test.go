package tests

import (
	"math/rand"
	"slices"
	"testing"

	"loop.example/g01219/impl"
)

// guardedDesk returns a copy of a desk whose spare capacity would show a change.
func guardedDesk(d impl.Desk) (impl.Desk, func() bool) {
	first, sameFirst := guardedAlgebra(d.First)
	second, sameSecond := guardedAlgebra(d.Second)
	f, sameForm := guardedForm(d.Form)
	return impl.Desk{First: first, Second: second, Form: f}, func() bool { return sameFirst() && sameSecond() && sameForm() }
}

func cloneAlgebra(a impl.Algebra) impl.Algebra {
	return impl.Algebra{Degrees: slices.Clone(a.Degrees), Images: cloneForms(a.Images)}
}

func cloneDesk(d impl.Desk) impl.Desk {
	return impl.Desk{First: cloneAlgebra(d.First), Second: cloneAlgebra(d.Second), Form: formOf(slices.Clone(d.Form.Terms)...)}
}

// fillDesk fills one part of a desk after the other, each with its spare capacity, and checks that no other part changes.
func fillDesk(t *testing.T, name string, d impl.Desk) {
	t.Helper()
	forms := slices.Concat(d.First.Images, d.Second.Images, []impl.Form{d.Form})
	checkForms(t, name, forms)
	overwrite(d.Form.Terms, term(97, 7))
	want := cloneDesk(d)
	overwrite(d.First.Degrees, 99)
	want.First.Degrees = d.First.Degrees
	if !sameDesks(d, want) {
		t.Fatalf("%s: the first degrees share memory with others", name)
	}
	overwrite(d.First.Images, formOf(term(96, 6)))
	want.First.Images = d.First.Images
	if !sameDesks(d, want) {
		t.Fatalf("%s: the first images share memory with others", name)
	}
	overwrite(d.Second.Degrees, 98)
	overwrite(d.Second.Images, formOf(term(95, 5)))
	want.Second = d.Second
	if !sameDesks(d, want) {
		t.Fatalf("%s: the second algebra shares memory with others", name)
	}
}

// checkDeskMemory calls a function that returns a desk twice, and fills the first result.
func checkDeskMemory(t *testing.T, name string, same func() bool, call func() impl.Desk) {
	t.Helper()
	first := call()
	if !same() {
		t.Fatalf("%s changes an argument", name)
	}
	second := call()
	want := cloneDesk(second)
	fillDesk(t, name, first)
	if !same() {
		t.Fatalf("%s shares memory with an argument", name)
	}
	if !sameDesks(second, want) {
		t.Fatalf("%s shares memory between its results", name)
	}
}

// checkLineMemory checks the memory of RunLine and IsDesk on a desk, which need be none.
func checkLineMemory(t *testing.T, d impl.Desk, line string) {
	t.Helper()
	d, same := guardedDesk(d)
	checkDeskMemory(t, "RunLine "+line, same, func() impl.Desk {
		next, _ := impl.RunLine(d, line)
		return next
	})
	impl.IsDesk(d)
	if !same() {
		t.Fatal("IsDesk changes an argument")
	}
}

func TestLinesKeepDesks(t *testing.T) {
	for _, c := range lineCases() {
		checkLineMemory(t, c.before.desk(t), c.line)
	}
	for _, c := range refusedCases() {
		for _, line := range c.lines {
			checkLineMemory(t, c.x.desk(t), line)
		}
	}
	r := rand.New(rand.NewSource(243))
	for range 3000 {
		d := randomDesk(t, r)
		checkLineMemory(t, d, randomLine(t, r, d))
	}
	for _, d := range noDesks(t) {
		for _, line := range someLines() {
			checkLineMemory(t, d, line)
		}
	}
}

// TestOneMemoryOnDesks has the same memory for both algebras, and for the form and an image.
func TestOneMemoryOnDesks(t *testing.T) {
	for _, line := range someLines() {
		a, same := guardedAlgebra(algebra(t, "2:0;3:1*a2"))
		d := impl.Desk{First: a, Second: a, Form: a.Images[1]}
		checkDeskMemory(t, "RunLine "+line, same, func() impl.Desk {
			next, _ := impl.RunLine(d, line)
			return next
		})
	}
}

func TestNewDesksShareNoMemory(t *testing.T) {
	checkDeskMemory(t, "NewDesk", func() bool { return true }, impl.NewDesk)
	if d := impl.NewDesk(); !sameDesks(d, newTexts.desk(t)) {
		t.Errorf("NewDesk() = %v after a result was filled", d)
	}
}

func TestDesksAfterTextsShareNoMemory(t *testing.T) {
	for _, c := range consoleCases() {
		checkDeskMemory(t, "DeskAfter", func() bool { return true }, func() impl.Desk {
			d, _ := impl.DeskAfter(c.text)
			return d
		})
		checkConsole(t, c.text, c.want, c.after.desk(t))
	}
}
