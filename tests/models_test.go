package tests

import (
	"fmt"
	"math/rand"
	"slices"
	"testing"

	"loop.example/g01219/impl"
)

// modelCase has the texts of an algebra, of its model up to a degree, and of the forms to which this is
// led.
type modelCase struct {
	a      string
	n      int64
	model  string
	images []string
}

// lie returns the text of an algebra whose first three generators tell a Lie algebra of matrices, and whose
// others come in pairs of some degrees, on which it acts. Models of such algebras, which are not
// minimal and have no ranks, may have more generators, or fewer.
func lie(degrees ...int64) string {
	text := "1:10006*bc;1:10005*ab;1:2*ac"
	for i, n := range degrees {
		x, y := string(rune('d'+2*i)), string(rune('e'+2*i))
		text += fmt.Sprintf(";%d:10006*a%s+10006*b%s;%d:1*a%s+10006*c%s", n, x, y, n, y, x)
	}
	return text
}

// knownModels returns the models of spheres, projective spaces, products, and others.
func knownModels() []modelCase {
	const two = "2:0;3:1*a2;2:0;3:1*c2"
	return []modelCase{
		{"", 2, "", nil},
		{"", 10, "", nil},
		{"12:0", 10, "", nil},
		{"11:0", 10, "", nil},
		{"10:0", 10, "10:0", []string{"1*a"}},
		{"3:0", 2, "", nil},
		{"3:0", 3, "3:0", []string{"1*a"}},
		{"3:0", 10, "3:0", []string{"1*a"}},
		{"2:0", 2, "2:0", []string{"1*a"}},
		{"2:0", 10, "2:0", []string{"1*a"}},
		{"2:0;3:1*a2", 2, "2:0", []string{"1*a"}},
		{"2:0;3:1*a2", 3, "2:0;3:1*a2", []string{"1*a", "1*b"}},
		{"2:0;3:1*a2", 10, "2:0;3:1*a2", []string{"1*a", "1*b"}},
		{"3:7*b2;2:0", 10, "2:0;3:1*a2", []string{"1*b", "7148*a"}},
		{"6:0;11:5*a2", 10, "6:0", []string{"1*a"}},
		{"2:0;5:1*a3", 4, "2:0", []string{"1*a"}},
		{"2:0;5:1*a3", 6, "2:0;5:1*a3", []string{"1*a", "1*b"}},
		{"5:1*b3;2:0", 6, "2:0;5:1*a3", []string{"1*b", "1*a"}},
		{"4:0;11:1*a3", 10, "4:0", []string{"1*a"}},
		{two, 2, "2:0;2:0", []string{"1*a", "1*c"}},
		{two, 3, "2:0;2:0;3:1*a2;3:1*b2", []string{"1*a", "1*c", "1*b", "1*d"}},
		{two, 10, "2:0;2:0;3:1*a2;3:1*b2", []string{"1*a", "1*c", "1*b", "1*d"}},
		{"5:0;3:0;3:0", 10, "3:0;3:0;5:0", []string{"1*b", "1*c", "1*a"}},
		{"2:0;3:0;4:1*ab", 10, "2:0;3:0;4:1*ab", []string{"1*a", "1*b", "1*c"}},
		{"2:0;2:0;3:1*a2;3:1*ab;3:1*b2", 10, "2:0;2:0;3:1*a2;3:1*ab;3:1*b2", []string{"1*a", "1*b", "1*c", "1*d", "1*e"}},
		{"2:0;2:0;3:1*ab+1*b2", 10, "2:0;2:0;3:1*ab+1*b2", []string{"1*a", "1*b", "1*c"}},
		{"2:0;2:0;3:2*ab+6*b2", 10, "2:0;2:0;3:1*ab+3*b2", []string{"1*a", "1*b", "5004*c"}},
		{"2:0;3:1*a2;3:1*d;4:0", 10, "2:0;3:1*a2", []string{"1*a", "1*b"}},
		{"1:1*b;2:0", 10, "", nil},
		{"4:5*b;5:0;2:0", 10, "2:0", []string{"1*c"}},
		{"1:1*b;2:0;3:1*b2", 10, "3:0", []string{"1*ab+10006*c"}},
		{"1:1*bc;1:1*ac;1:1*ab", 10, "3:0", []string{"1*abc"}},
		{lie(1), 2, "2:0", []string{"1*de"}},
		{lie(2), 10, "3:0", []string{"1*abc"}},
	}
}

// minimalModel returns the model of an algebra as a map.
func minimalModel(t *testing.T, a impl.Algebra, n int64) mapping {
	t.Helper()
	b, images, code := impl.MinimalModel(a, n)
	if code != impl.ErrNone {
		t.Fatalf("MinimalModel(%v, %d): code %d", a, n, code)
	}
	return mapping{b, a, images}
}

// modelCheck goes through the generators of a model from the first one on, and compares them with what the
// steps of the chapter ask for.
type modelCheck struct {
	whole mapping
	part  mapping // with the generators that have been met
}

// take adds the next generator of the whole to the part, and returns its d and its form.
func (c *modelCheck) take(t *testing.T, n int64) (impl.Form, impl.Form) {
	t.Helper()
	i := len(c.part.m)
	if i >= len(c.whole.m) || c.whole.a.Degrees[i] != n {
		t.Fatalf("the model %v lacks a generator of the degree %d", c.whole, n)
	}
	d, image := c.whole.a.Images[i], c.whole.m[i]
	grown, code := impl.WithGenerator(c.part.a, n, d)
	if code != impl.ErrNone {
		t.Fatalf("the model %v: WithGenerator: code %d", c.whole, code)
	}
	c.part = mapping{grown, c.part.b, append(c.part.m, image)}
	return d, image
}

// checkClasses checks that the classes of a degree n have just the generators that they need.
func (c *modelCheck) checkClasses(t *testing.T, n int64) {
	t.Helper()
	led := boundariesByWords(c.part.b, n)
	for _, f := range classForms(t, c.part.a, n) {
		led.add(c.part.imageByWords(f))
	}
	for _, f := range classForms(t, c.part.b, n) {
		if !led.add(f) {
			continue
		}
		if d, image := c.take(t, n); len(d.Terms) > 0 || !sameForms(image, f) {
			t.Fatalf("the model %v leads no generator to %v", c.whole, f)
		}
	}
}

// checkPrimitives checks the generators of a degree n whose d is led to boundaries.
func (c *modelCheck) checkPrimitives(t *testing.T, n int64) {
	t.Helper()
	classes := classForms(t, c.part.a, n+1)
	led := boundariesByWords(c.part.b, n+1)
	missing := 0
	for _, f := range classes {
		if !led.add(c.part.imageByWords(f)) {
			missing++
		}
	}
	var lists [][]int64
	for range missing {
		d, image := c.take(t, n)
		numbers := make([]int64, len(classes))
		for i, f := range classes {
			// The first monomial of a class form occurs in no other one.
			numbers[i] = factorOf(d, f.Terms[0].Monomial)
		}
		if !sameForms(combination(numbers, classes), d) {
			t.Fatalf("the model %v: %v is no combination of class forms", c.whole, d)
		}
		if !sameForms(c.part.imageByWords(d), differentialByWords(c.part.b, image)) || !isReducedBy(image, closedForms(t, c.part.b, n)) {
			t.Fatalf("the model %v: %v is not the primitive of what %v is led to", c.whole, image, d)
		}
		lists = append(lists, numbers)
	}
	if !areReducedLists(lists) {
		t.Fatalf("the model %v: the lists %v are not reduced", c.whole, lists)
	}
}

func factorOf(f impl.Form, m impl.Monomial) int64 {
	for _, x := range f.Terms {
		if x.Monomial == m {
			return x.Factor
		}
	}
	return 0
}

// areReducedLists reports whether lists of numbers are reduced, as forms are.
func areReducedLists(lists [][]int64) bool {
	last := -1
	for i, list := range lists {
		first := slices.IndexFunc(list, func(x int64) bool { return x != 0 })
		if first <= last || list[first] != 1 {
			return false
		}
		for j, other := range lists {
			if j != i && other[first] != 0 {
				return false
			}
		}
		last = first
	}
	return true
}

// checkModel checks a model up to n by the steps that the chapter tells.
func checkModel(t *testing.T, whole mapping, n int64) {
	t.Helper()
	c := modelCheck{whole: whole, part: mapping{b: whole.b}}
	for i := int64(2); i <= n; i++ {
		c.checkClasses(t, i)
		c.checkPrimitives(t, i)
	}
	if !sameAlgebras(c.part.a, whole.a) || !sameFormLists(c.part.m, whole.m) {
		t.Fatalf("the model %v up to %d has more generators than the steps make: %v", whole, n, c.part.a)
	}
}

// isModelByWords reports whether a map is a model up to n.
func isModelByWords(t *testing.T, x mapping, n int64) bool {
	t.Helper()
	for i := range n + 2 {
		led := boundariesByWords(x.b, i)
		forms := classForms(t, x.a, i)
		for _, f := range forms {
			if !led.add(x.imageByWords(f)) {
				return false
			}
		}
		if i <= n && len(forms) != bettiByWords(x.b, i) {
			return false
		}
	}
	return true
}

// simpleAlgebra returns an algebra that is simple in degree 1 and has at most most monomials of each of the
// degrees 0 to top + 1. Most are other than free, and some have a Lie algebra.
func simpleAlgebra(t *testing.T, r *rand.Rand, top int64, most int) impl.Algebra {
	t.Helper()
	for {
		a := smallAlgebra(t, r, top, most)
		switch r.Intn(8) {
		case 0:
			pairs := [][]int64{{1}, {2}, {3}, {1, 1}, {1, 3}, {1, 5}}[r.Intn(6)]
			a = withClosed(t, r, algebra(t, lie(pairs...)), r.Intn(2))
		case 1:
			a = withClosed(t, r, algebra(t, []string{"2:0;2:0", "2:0;3:0", "2:0;2:0;2:0"}[r.Intn(3)]), 4)
		}
		if bettiByWords(a, 1) == 0 && mostMonomials(a, top+1) <= most {
			return a
		}
	}
}

// withClosed adds count generators to an algebra, mostly with d other than 0.
func withClosed(t *testing.T, r *rand.Rand, a impl.Algebra, count int) impl.Algebra {
	t.Helper()
	for range count {
		n := 2 + r.Int63n(4)
		b, code := impl.WithGenerator(a, n, randomClosed(r, a, n+1))
		if code != impl.ErrNone {
			t.Fatalf("WithGenerator(%v, %d): code %d", a, n, code)
		}
		a = b
	}
	return a
}
