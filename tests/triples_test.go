package tests

import (
	"math/rand"
	"slices"
	"testing"

	"loop.example/g01219/impl"
)

// triad has three closed homogeneous forms of an algebra, other than 0.
type triad struct {
	a       impl.Algebra
	x, y, z impl.Form
}

// tripleCase has the texts of a triad, and what its triple product has: u and v, the form, the
// indeterminacy and the class. All of it is empty if there is none.
type tripleCase struct {
	a, x, y, z string
	u, v, form string
	rows       [][]int64
	class      []int64
}

func (c tripleCase) triad(t *testing.T) triad {
	t.Helper()
	a := algebra(t, c.a)
	return triad{a, parse(t, a.Degrees, c.x), parse(t, a.Degrees, c.y), parse(t, a.Degrees, c.z)}
}

// Algebras in which many products of classes are 0.
const (
	heisenberg = "1:0;1:0;1:1*ab"
	twoSquares = "2:0;2:0;3:1*a2;3:1*ab;3:1*b2"
	evenThird  = "2:0;3:0;4:1*ab"
)

// knownTriples has triple products that are not 0, with forms of even and odd degrees, with one or two primitives
// other than 0, with boundaries, numbers and sums among the forms, with and without an indeterminacy, and
// some that do not exist.
func knownTriples() []tripleCase {
	return []tripleCase{
		{heisenberg, "1*a", "1*a", "1*b", "0", "10006*c", "1*ac", nil, []int64{1, 0}},
		{heisenberg, "1*a", "1*b", "1*b", "10006*c", "0", "10006*bc", nil, []int64{0, 10006}},
		{heisenberg, "1*a", "1*b", "1*a", "10006*c", "1*c", "10005*ac", nil, []int64{10005, 0}},
		{heisenberg, "1*b", "1*a", "1*b", "1*c", "10006*c", "2*bc", nil, []int64{0, 2}},
		{heisenberg, "2*a", "3*a+5*b", "1*a", "9997*c", "5*c", "9987*ac", nil, []int64{9987, 0}},
		{heisenberg, "1*a", "1*a", "1*a", "0", "0", "0", nil, []int64{0, 0}},
		{heisenberg, "1*a", "1*ac", "1*a", "0", "0", "0", [][]int64{{1}}, []int64{0}},
		{heisenberg, "1*a", "1*ab", "1*b", "0", "0", "0", [][]int64{{1}}, []int64{0}},
		{heisenberg, "1*ab", "1*a", "1*b", "0", "10006*c", "10006*abc", [][]int64{{1}}, []int64{0}},
		{heisenberg, "1*a", "1*bc", "1*a", "", "", "", nil, nil},
		{heisenberg, "1*a", "1*ac", "1*b", "", "", "", nil, nil},
		{heisenberg + ";1:0", "1*a", "1*a", "1*b", "0", "10006*c", "1*ac", [][]int64{{0, 1, 0, 0}, {0, 0, 0, 1}}, []int64{1, 0, 0, 0}},
		{heisenberg + ";1:0", "1*a", "1*a", "1*b+1*d", "", "", "", nil, nil},
		{"2:0;3:1*a2", "1*a", "1*a", "1*a", "1*b", "1*b", "0", nil, nil},
		{"2:0;3:1*a2", "1*a2", "1*a", "1*a", "1*ab", "1*b", "0", nil, nil},
		{"2:0;3:1*a2", "1*a", "1*a2", "3*a", "1*ab", "3*ab", "0", nil, nil},
		{"2:0;3:1*a2;2:0", "1*a2", "1*c", "1*a2", "1*bc", "1*bc", "0", nil, nil},
		{"2:0;3:1*a2;2:0", "1*a", "1*c", "1*a", "", "", "", nil, nil},
		{"2:0;3:1*a2;2:0", "1*c", "1*a", "1*a", "", "", "", nil, nil},
		{"2:0;3:1*a2;3:0", "1*a", "1*a", "1*c", "", "", "", nil, nil},
		{"2:0;3:1*a2;3:0", "2*1", "1*a2", "3*1", "2*b", "3*b", "0", [][]int64{{1}}, []int64{0}},
		{"2:0;3:1*a2", "1*1", "1*a2", "1*a", "1*b", "1*ab", "0", nil, nil},
		{"2:0;3:1*a2", "1*1", "1*a", "1*a", "", "", "", nil, nil},
		{"2:0;3:1*a2", "1*1", "1*1", "1*a2", "", "", "", nil, nil},
		{"2:0;3:1*a2", "1*1", "1*1", "1*1", "", "", "", nil, nil},
		{"", "1*1", "2*1", "3*1", "", "", "", nil, nil},
		{"2:0;5:1*a3", "1*a", "1*a", "1*a", "", "", "", nil, nil},
		{"2:0;5:1*a3", "1*a", "1*a2", "1*a", "1*b", "1*b", "0", nil, nil},
		{"2:0;5:1*a3;7:0", "1*a", "1*a2", "1*a", "1*b", "1*b", "0", nil, []int64{0}},
		{twoSquares, "1*a", "1*a", "1*b", "1*c", "1*d", "1*ad+10006*bc", nil, []int64{1, 0}},
		{twoSquares, "1*a", "1*b", "1*b", "1*d", "1*e", "1*ae+10006*bd", nil, []int64{0, 1}},
		{twoSquares, "1*a", "1*b", "1*a", "1*d", "1*d", "0", nil, []int64{0, 0}},
		{twoSquares, "1*a", "1*a+3*b", "2*b", "1*c+3*d", "2*d+6*e", "2*ad+6*ae+10005*bc+10001*bd", nil, []int64{2, 6}},
		{twoSquares + ";3:0", "1*a", "1*a", "1*b", "1*c", "1*d", "1*ad+10006*bc", [][]int64{{0, 0, 1, 0}, {0, 0, 0, 1}}, []int64{1, 0, 0, 0}},
		{"3:0;5:0;7:1*ab", "1*a", "1*a", "1*b", "0", "10006*c", "1*ac", nil, []int64{1}},
		{evenThird, "1*a", "1*b", "1*b", "1*c", "0", "1*bc", nil, []int64{1}},
		{evenThird, "1*b", "1*b", "1*a", "0", "10006*c", "1*bc", nil, []int64{1}},
		{evenThird, "1*b", "1*a", "1*b", "10006*c", "1*c", "10005*bc", nil, []int64{10005}},
		{"5:0;5:0;9:1*ab", "1*a", "1*a", "1*b", "0", "10006*c", "1*ac", nil, []int64{1, 0}},
		{"1:0;4:0;4:1*ab", "1*a", "1*a", "1*b", "0", "10006*c", "1*ac", nil, []int64{1}},
	}
}

func degreeOf(a impl.Algebra, f impl.Form) int64 {
	n, _ := impl.DegreeOfForm(a.Degrees, f)
	return n
}

// primed returns f' of a form f of the degree n.
func primed(f impl.Form, n int64) impl.Form {
	if n%2 == 0 {
		return f
	}
	return combination([]int64{impl.FieldPrime - 1}, []impl.Form{f})
}

func (c triad) degrees() (int64, int64, int64) {
	return degreeOf(c.a, c.x), degreeOf(c.a, c.y), degreeOf(c.a, c.z)
}

// degree returns the degree of the triple product.
func (c triad) degree() int64 {
	p, q, r := c.degrees()
	return p + q + r - 1
}

// products returns x' y and y' z.
func (c triad) products() (impl.Form, impl.Form) {
	p, q, _ := c.degrees()
	return productByWords(c.a.Degrees, primed(c.x, p), c.y), productByWords(c.a.Degrees, primed(c.y, q), c.z)
}

// existsByWords reports whether the triple product exists.
func (c triad) existsByWords() bool {
	p, q, r := c.degrees()
	first, second := c.products()
	return boundariesByWords(c.a, p+q).has(first) && boundariesByWords(c.a, q+r).has(second)
}

// formByWords returns the form of the triple product that u and v make.
func (c triad) formByWords(u, v impl.Form) impl.Form {
	p, q, _ := c.degrees()
	left := productByWords(c.a.Degrees, primed(u, p+q-1), c.z)
	right := productByWords(c.a.Degrees, primed(c.x, p), v)
	return combination([]int64{1, 1}, []impl.Form{left, right})
}

// ambiguity returns the forms whose classes make the indeterminacy of a triple product that exists.
func (c triad) ambiguity(t *testing.T) []impl.Form {
	t.Helper()
	p, q, r := c.degrees()
	var forms []impl.Form
	for _, f := range classForms(t, c.a, q+r-1) {
		forms = append(forms, productByWords(c.a.Degrees, c.x, f))
	}
	for _, f := range classForms(t, c.a, p+q-1) {
		forms = append(forms, productByWords(c.a.Degrees, f, c.z))
	}
	return forms
}

// triple is what the functions tell of the triple product of a triad, with the code of them all.
type triple struct {
	parts []impl.Form
	form  impl.Form
	rows  [][]int64
	class []int64
	code  int64
}

// tripleOf calls the four functions, which must have the same code, and zero values beside errors.
func tripleOf(t *testing.T, c triad) triple {
	t.Helper()
	var found triple
	var codes [3]int64
	found.parts, found.code = impl.TripleParts(c.a, c.x, c.y, c.z)
	found.form, codes[0] = impl.TripleForm(c.a, c.x, c.y, c.z)
	found.rows, codes[1] = impl.Indeterminacy(c.a, c.x, c.y, c.z)
	found.class, codes[2] = impl.TripleClass(c.a, c.x, c.y, c.z)
	if codes != [3]int64{found.code, found.code, found.code} {
		t.Fatalf("TripleParts(%v) has the code %d, and the other functions have %v", c, found.code, codes)
	}
	some := len(found.parts) + len(found.form.Terms) + len(found.rows) + len(found.class)
	if found.code != impl.ErrNone && some > 0 || found.code == impl.ErrNone && len(found.parts) != 2 {
		t.Fatalf("the triple product of %v is %v", c, found)
	}
	return found
}

// checkTriple compares the triple product of a triad with what its definition asks for, and returns it.
func checkTriple(t *testing.T, c triad) triple {
	t.Helper()
	found := tripleOf(t, c)
	if exists := c.existsByWords(); found.code != impl.ErrNone || !exists {
		if found.code != impl.ErrNotFound || exists {
			t.Fatalf("the triple product of %v exists: %v; code %d", c, exists, found.code)
		}
		return found
	}
	p, q, r := c.degrees()
	first, second := c.products()
	checkPart(t, c, found.parts[0], first, p+q-1)
	checkPart(t, c, found.parts[1], second, q+r-1)
	if !sameForms(found.form, c.formByWords(found.parts[0], found.parts[1])) {
		t.Fatalf("the form of the triple product of %v is %v", c, found.form)
	}
	checkIndeterminacy(t, c, found)
	return found
}

// checkPart checks that u or v is the primitive of a form.
func checkPart(t *testing.T, c triad, part impl.Form, f impl.Form, n int64) {
	t.Helper()
	if !sameForms(differentialByWords(c.a, part), f) || len(part.Terms) > 0 && degreeOf(c.a, part) != n {
		t.Fatalf("%v: %v is no form of the degree %d with the differential %v", c, part, n, f)
	}
	if len(part.Terms) > 0 && !isReducedBy(part, closedForms(t, c.a, n)) {
		t.Fatalf("%v: %v is not reduced", c, part)
	}
}

// checkIndeterminacy checks that the indeterminacy is the reduced list of the space that it is, and that the class is
// reduced by it.
func checkIndeterminacy(t *testing.T, c triad, found triple) {
	t.Helper()
	forms := classForms(t, c.a, c.degree())
	s := boundariesByWords(c.a, c.degree())
	boundaries := len(s)
	for _, f := range c.ambiguity(t) {
		s.add(f)
	}
	if !areReducedLists(found.rows) || len(s) != boundaries+len(found.rows) {
		t.Fatalf("the indeterminacy of %v is %v", c, found.rows)
	}
	if len(found.class) != len(forms) || !s.has(minus(found.form, combination(found.class, forms))) {
		t.Fatalf("the class of %v is %v", c, found.class)
	}
	for _, numbers := range found.rows {
		if len(numbers) != len(forms) || !s.has(combination(numbers, forms)) {
			t.Fatalf("the indeterminacy of %v has %v", c, numbers)
		}
		first := slices.IndexFunc(numbers, func(x int64) bool { return x != 0 })
		if found.class[first] != 0 {
			t.Fatalf("the class %v of %v is not reduced by %v", found.class, c, numbers)
		}
	}
}

// richTexts returns texts of algebras with many triple products.
func richTexts() []string {
	return []string{
		heisenberg, twoSquares, evenThird, heisenberg + ";1:0", heisenberg + ";2:0", twoSquares + ";3:0", twoSquares + ";1:0",
		"1:0;1:0;1:1*ab;1:1*ac",
		"1:0;1:0;1:0;1:1*ab;1:1*bc",
		"1:0;1:0;1:0;1:0;1:1*ab+1*cd",
		"1:0;2:0;2:1*ab",
		"1:0;4:0;4:1*ab",
		"3:0;3:0;5:1*ab",
		"2:0;2:0;3:1*a2;3:1*ab",
		"2:0;2:0;2:0;3:1*ab;3:1*bc",
		"2:0;3:1*a2;2:0;3:1*c2",
		"2:0;3:1*a2;3:0;1:0",
		"1:1*b;2:0;2:0;3:1*c2;3:1*bc",
	}
}

// richAlgebra returns an algebra with many triple products, told by other generators.
func richAlgebra(t *testing.T, r *rand.Rand) impl.Algebra {
	t.Helper()
	texts := richTexts()
	a := shuffled(r, algebra(t, texts[r.Intn(len(texts))]))
	for range r.Intn(4) {
		i := r.Intn(len(a.Degrees))
		a = changedByWords(a, i, randomChange(r, a, i)).b
	}
	return a
}

// randomClass returns a sum of class forms of a degree n and, often, a boundary.
func randomClass(t *testing.T, r *rand.Rand, a impl.Algebra, n int64) impl.Form {
	t.Helper()
	forms := classForms(t, a, n)
	numbers := randomNumbers(r, len(forms))
	if r.Intn(2) == 0 {
		for i := range numbers {
			numbers[i] = 0
		}
		if len(numbers) > 0 {
			numbers[r.Intn(len(numbers))] = 1 + r.Int63n(impl.FieldPrime-1)
		}
	}
	f := combination(numbers, forms)
	if n > 0 && r.Intn(3) == 0 {
		f = combination([]int64{1, 1}, []impl.Form{f, differentialByWords(a, randomOfDegree(r, a, n-1))})
	}
	return f
}

// randomTriad returns a triad whose degrees add up to at most most.
func randomTriad(t *testing.T, r *rand.Rand, most int64) triad {
	t.Helper()
	a := richAlgebra(t, r)
	if r.Intn(3) == 0 {
		a = smallAlgebra(t, r, most, 40)
	}
	for {
		var list [3]impl.Form
		sum, some := int64(0), true
		for i := range list {
			n := 1 + r.Int63n(4)
			if r.Intn(20) == 0 {
				n = 0
			}
			list[i] = randomClass(t, r, a, n)
			sum, some = sum+n, some && len(list[i].Terms) > 0
		}
		if some && sum <= most {
			return triad{a, list[0], list[1], list[2]}
		}
		if r.Intn(40) == 0 { // some algebras have no closed forms of these degrees but numbers
			a = richAlgebra(t, r)
		}
	}
}
