package tests

import (
	"cmp"
	"math/rand"
	"slices"
	"testing"

	"loop.example/g01219/impl"
)

// mapping is a list of forms of b for the generators of a.
type mapping struct {
	a, b impl.Algebra
	m    []impl.Form
}

// mapCase has the texts of a mapping.
type mapCase struct {
	a, b string
	m    []string
}

func (c mapCase) mapping(t *testing.T) mapping {
	t.Helper()
	a, b := algebra(t, c.a), algebra(t, c.b)
	return mapping{a, b, parseAll(t, b.Degrees, c.m)}
}

func mappingsOf(t *testing.T, cases []mapCase) []mapping {
	t.Helper()
	var list []mapping
	for _, c := range cases {
		list = append(list, c.mapping(t))
	}
	return list
}

// eight has eight even generators, with the sum sumOfEight.
const (
	eight      = "2:0;2:0;2:0;2:0;2:0;2:0;2:0;2:0"
	sumOfEight = "1*a+1*b+1*c+1*d+1*e+1*f+1*g+1*h"
)

// goodMaps returns maps: between spheres, projective spaces, tori and products, without generators on
// either side, with sums, products and 0 as images, and with images whose terms cancel.
func goodMaps() []mapCase {
	return []mapCase{
		{"", "", nil},
		{"", "2:0;3:1*a2", nil},
		{"2:0;3:1*a2", "", []string{"0", "0"}},
		{"1:1*b;2:0", "", []string{"0", "0"}},
		{"2:0;3:1*a2", "2:0;3:1*a2", []string{"0", "0"}},
		{"2:0;3:1*a2", "2:0;3:1*a2", []string{"1*a", "1*b"}},
		{"2:0;3:1*a2", "2:0;3:1*a2", []string{"3*a", "9*b"}},
		{"2:0;3:1*a2", "2:0;3:1*a2", []string{"10006*a", "1*b"}},
		{"2:0;3:1*a2", "3:7*b2;2:0", []string{"7*b", "7*a"}},
		{"2:0;3:1*a2", "3:0", []string{"0", "5*a"}},
		{"2:0;3:1*a2", "2:0", []string{"0", "0"}},
		{"2:0", "2:0;3:1*a2", []string{"5*a"}},
		{"2:0;5:1*a3", "2:0;3:1*a2", []string{"1*a", "1*ab"}},
		{"2:0;5:1*a3", "2:0;3:1*a2", []string{"2*a", "8*ab"}},
		{"3:0", "2:0;3:1*a2", []string{"0"}},
		{"3:0", "1:0;1:0;1:0", []string{"7*abc"}},
		{"2:0", "1:0;1:0;1:0;1:0", []string{"1*ab+1*cd"}},
		{"2:0;3:1*a2", "1:0;1:0;1:0", []string{"3*ab+2*bc", "5*abc"}},
		{"2:0;2:0", "2:0", []string{"1*a", "1*a"}},
		{"2:0;2:0", "2:0;2:0", []string{"1*a+1*b", "1*a+10006*b"}},
		{"2:0;2:0;3:1*a2+10006*b2", "2:0", []string{"1*a", "1*a", "0"}},
		{"2:0;2:0;3:1*a2+10006*b2", "2:0", []string{"1*a", "10006*a", "0"}},
		{"1:0;1:0;1:0", "1:0;1:0;1:0", []string{"1*b", "1*c", "1*a"}},
		{"1:0;1:0;1:0", "1:0;1:0;1:0", []string{"1*a+2*b", "3*b+4*c", "6*a+5*c"}},
		{"1:0;1:0;1:1*ab", "1:0;1:0;1:1*ab", []string{"1*a+1*b", "1*b", "1*c"}},
		{"1:0;1:0;1:1*ab", "1:0;1:0;1:1*ab", []string{"1*b", "1*a", "10006*c"}},
		{"1:0;1:0;1:1*ab", "1:0;1:0;1:1*ab", []string{"1*a", "1*a", "2*a+3*b"}},
		{"1:0;1:0;1:1*ab", "1:0", []string{"2*a", "3*a", "4*a"}},
		{"1:1*bc;1:1*ac;1:1*ab", "1:1*bc;1:1*ac;1:1*ab", []string{"1*a", "1*b", "1*c"}},
		{"1:0;2:1*ab", "1:0;2:1*ab", []string{"1*a", "7*b"}},
		{"1:1*b;2:0", "1:0;2:1*ab", []string{"1*a", "0"}},
		{"1:1*b;2:0", "1:0;1:0;1:1*ab", []string{"4*a+1*c", "1*ab"}},
		{"4:5*b;5:0", "2:0;3:1*a2", []string{"5*a2", "0"}},
		{"4:5*b;5:0", "2:0;3:0;4:1*ab", []string{"1*c", "4003*ab"}},
		{"3:0;3:0", "3:0", []string{"1*a", "2*a"}},
		{"2:0;3:0;4:1*ab", "2:0;3:0;4:1*ab", []string{"2*a", "3*b", "5*a2+6*c"}},
		{eight, "2:0", []string{"1*a", "2*a", "3*a", "4*a", "5*a", "6*a", "7*a", "8*a"}},
		{"2:0", eight, []string{sumOfEight}},
	}
}

// otherAssignments returns assignments that do not keep the differential.
func otherAssignments() []mapCase {
	const sphere, plane, heisenberg = "2:0;3:1*a2", "2:0;5:1*a3", "1:0;1:0;1:1*ab"
	return []mapCase{
		{sphere, sphere, []string{"1*a", "2*b"}},
		{sphere, sphere, []string{"2*a", "2*b"}},
		{sphere, sphere, []string{"1*a", "0"}},
		{sphere, sphere, []string{"0", "1*b"}},
		{sphere, "2:0", []string{"1*a", "0"}},
		{"3:0", sphere, []string{"1*b"}},
		{plane, sphere, []string{"1*a", "10006*ab"}},
		{heisenberg, heisenberg, []string{"1*b", "1*a", "1*c"}},
		{heisenberg, heisenberg, []string{"1*a", "1*c", "0"}},
		{"2:0;2:0;3:1*a2+1*b2", "2:0", []string{"1*a", "1*a", "0"}},
		{"1:1*b;2:0", "1:0;2:1*ab", []string{"1*a", "1*b"}},
		{"1:1*b;2:0", heisenberg, []string{"1*c", "2*ab"}},
	}
}

// noAssignments returns lists of forms that are no assignments: too short or too long, not homogeneous, or of
// another degree.
func noAssignments() []mapCase {
	const sphere = "2:0;3:1*a2"
	return []mapCase{
		{"", "", []string{"0"}},
		{"", sphere, []string{"1*a"}},
		{"2:0", "", nil},
		{"2:0", "", []string{"1*1"}},
		{sphere, sphere, nil},
		{sphere, sphere, []string{"1*a"}},
		{sphere, sphere, []string{"0"}},
		{sphere, sphere, []string{"1*a", "1*b", "0"}},
		{sphere, sphere, []string{"1*a+1*1", "1*b"}},
		{sphere, sphere, []string{"1*a2+1*a", "1*b"}},
		{sphere, sphere, []string{"1*a", "1*a+1*b"}},
		{sphere, sphere, []string{"1*1", "0"}},
		{sphere, sphere, []string{"0", "1*1"}},
		{sphere, sphere, []string{"1*a2", "1*b"}},
		{sphere, sphere, []string{"1*b", "1*a"}},
		{sphere, sphere, []string{"0", "1*a"}},
		{sphere, sphere, []string{"0", "1*ab"}},
	}
}

// badMaps returns lists of forms that are no maps.
func badMaps() []mapCase {
	return append(noAssignments(), otherAssignments()...)
}

// productByWords returns the product of two forms, without asking for limits.
func productByWords(degrees []int64, f, g impl.Form) impl.Form {
	sum := map[impl.Monomial]int64{}
	for _, x := range f.Terms {
		for _, y := range g.Terms {
			m, sign := wordProduct(degrees, x.Monomial, y.Monomial)
			sum[m] = (sum[m] + sign*x.Factor*y.Factor) % impl.FieldPrime
		}
	}
	return formOfSum(sum)
}

// imageByWords replaces each letter of the words of f by its form, without asking for limits.
func (x mapping) imageByWords(f impl.Form) impl.Form {
	sum := map[impl.Monomial]int64{}
	for _, y := range f.Terms {
		image := formOf(term(y.Factor))
		for _, i := range wordOf(y.Monomial) {
			image = productByWords(x.b.Degrees, image, x.m[i])
		}
		addTerms(sum, 1, image)
	}
	return formOfSum(sum)
}

// isMapByWords reports whether forms of b, as many as a has generators, are a map.
func (x mapping) isMapByWords() bool {
	for i, f := range x.m {
		if n, code := impl.DegreeOfForm(x.b.Degrees, f); code != impl.ErrNone || n != x.a.Degrees[i] && n != -1 {
			return false
		}
		if !sameForms(x.imageByWords(x.a.Images[i]), differentialByWords(x.b, f)) {
			return false
		}
	}
	return true
}

// randomMapping returns a map from a to b. It goes through the generators of a by their ranks, and
// leads each to some form whose differential is as it must be. If there is none, the map is 0.
func randomMapping(r *rand.Rand, a, b impl.Algebra) mapping {
	x := mapping{a, b, make([]impl.Form, len(a.Degrees))}
	ranks, code := impl.RanksOf(a)
	if code != impl.ErrNone {
		return x
	}
	order := r.Perm(len(ranks))
	slices.SortStableFunc(order, func(i, j int) int { return cmp.Compare(ranks[i], ranks[j]) })
	for _, i := range order {
		f, code := impl.PrimitiveOf(b, x.imageByWords(a.Images[i]))
		closed, _ := impl.ClosedForms(b, a.Degrees[i])
		if code != impl.ErrNone {
			return mapping{a, b, make([]impl.Form, len(a.Degrees))}
		}
		numbers := append(randomNumbers(r, len(closed)), 1)
		x.m[i] = combination(numbers, append(closed, f))
	}
	return x
}

// randomTarget returns an algebra to which there are maps from a other than 0: mostly a itself, or a
// with more generators.
func randomTarget(t *testing.T, r *rand.Rand, a impl.Algebra, most int) impl.Algebra {
	t.Helper()
	switch r.Intn(3) {
	case 0:
		return a
	case 1:
		return smallAlgebra(t, r, 13, most)
	}
	b := a
	for range 3 {
		n := 1 + r.Int63n(4)
		if c, code := impl.WithGenerator(b, n, randomClosed(r, b, n+1)); code == impl.ErrNone && mostMonomials(c, 14) <= most {
			b = c
		}
	}
	return b
}

// randomMap returns a map, mostly other than 0, between algebras that have at most most monomials of each
// of the degrees 0 to 14.
func randomMap(t *testing.T, r *rand.Rand, most int) mapping {
	t.Helper()
	for {
		a := smallAlgebra(t, r, 13, most)
		x := randomMapping(r, a, randomTarget(t, r, a, most))
		if !x.isZeroMap() || r.Intn(6) == 0 {
			return x
		}
	}
}

// changedMap returns a map of which single factors have been changed, which leaves some of them maps.
func changedMap(t *testing.T, r *rand.Rand) mapping {
	t.Helper()
	x := randomMap(t, r, 60)
	for _, f := range x.m {
		for i := range f.Terms {
			if r.Intn(6) == 0 {
				f.Terms[i].Factor = 1 + r.Int63n(impl.FieldPrime-1)
			}
		}
	}
	return x
}

// anyMapping returns a list of forms of b, mostly as many as a has generators, which is often no map; a and b
// are often no algebras.
func anyMapping(t *testing.T, r *rand.Rand, a, b impl.Algebra) mapping {
	t.Helper()
	x := mapping{a, b, make([]impl.Form, len(a.Degrees)+r.Intn(8)/7)}
	for i := range x.m {
		m := anyMonomial(r)
		x.m[i] = []impl.Form{{}, {}, {}, {}, {}, {}, {}, formOf(term(r.Int63n(3)-1, m[:]...))}[r.Intn(8)]
	}
	return x
}

// isZeroMap reports whether all forms of a map are 0.
func (x mapping) isZeroMap() bool {
	return !slices.ContainsFunc(x.m, func(f impl.Form) bool { return len(f.Terms) > 0 })
}

// generator returns the generator x(i) times a factor.
func generator(i int, factor int64) impl.Form {
	x := term(factor)
	x.Monomial[i] = 1
	return formOf(x)
}

// identityForms returns the generators of an algebra.
func identityForms(a impl.Algebra) []impl.Form {
	var forms []impl.Form
	for i := range a.Degrees {
		forms = append(forms, generator(i, 1))
	}
	return forms
}

// applied returns the image of a form that stays within the limits.
func applied(t *testing.T, x mapping, f impl.Form) impl.Form {
	t.Helper()
	g, code := impl.ApplyMap(x.a, x.b, x.m, f)
	if code != impl.ErrNone || !impl.IsForm(x.b.Degrees, g) {
		t.Fatalf("ApplyMap(%v, %v) = %v, %d", x, f, g, code)
	}
	return g
}

// composed returns x then y.
func composed(t *testing.T, x, y mapping) mapping {
	t.Helper()
	forms, code := impl.ComposeMaps(x.a, x.b, y.b, x.m, y.m)
	if code != impl.ErrNone {
		t.Fatalf("ComposeMaps(%v, %v): code %d", x, y, code)
	}
	return mapping{x.a, y.b, forms}
}

// matrixOf returns the matrix of a map within the limits.
func matrixOf(t *testing.T, x mapping, n int64) [][]int64 {
	t.Helper()
	matrix, code := impl.MapMatrix(x.a, x.b, x.m, n)
	if code != impl.ErrNone {
		t.Fatalf("MapMatrix(%v, %d): code %d", x, n, code)
	}
	return matrix
}
