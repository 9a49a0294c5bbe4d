package tests

import (
	"math/rand"
	"slices"
	"strconv"
	"strings"
	"testing"

	"loop.example/g01219/impl"
)

// madeSpace is a known space as its function makes it, with the text of its algebra, its Betti numbers (all others,
// up to MaxAsked, are 0), and its dimension.
type madeSpace struct {
	name      string
	call      func() (impl.Algebra, int64)
	text      string
	betti     []int64
	dimension int64
}

// algebra returns the algebra of a space.
func (s madeSpace) algebra(t *testing.T) impl.Algebra {
	t.Helper()
	a, code := s.call()
	if code != impl.ErrNone {
		t.Fatalf("%s: code %d", s.name, code)
	}
	return a
}

// bettiUpTo returns the Betti numbers of the degrees 0 to m.
func (s madeSpace) bettiUpTo(m int64) []int64 {
	return append(slices.Clone(s.betti), make([]int64, impl.MaxAsked+1)...)[:m+1]
}

// peaks returns a list with the numbers 1 at some places, and 0 at all others.
func peaks(places ...int64) []int64 {
	list := make([]int64, slices.Max(places)+1)
	for _, n := range places {
		list[n] = 1
	}
	return list
}

// choices returns how many lists of some of the degrees add up to 0, 1, 2, ..
func choices(degrees ...int64) []int64 {
	list := []int64{1}
	for _, n := range degrees {
		longer := append(slices.Clone(list), make([]int64, n)...)
		for i, count := range list {
			longer[int64(i)+n] += count
		}
		list = longer
	}
	return list
}

func spheres() []madeSpace {
	texts := map[int64]string{
		1: "1:0", 3: "3:0", 5: "5:0", 7: "7:0", 9: "9:0", 11: "11:0",
		2: "2:0;3:1*a2", 4: "4:0;7:1*a2", 6: "6:0;11:1*a2",
	}
	var list []madeSpace
	for n := range int64(13) {
		if text, found := texts[n]; found {
			call := func() (impl.Algebra, int64) { return impl.SphereModel(n) }
			list = append(list, madeSpace{"the sphere of " + strconv.FormatInt(n, 10), call, text, peaks(0, n), n})
		}
	}
	return list
}

func projectiveSpaces() []madeSpace {
	var list []madeSpace
	for _, x := range []struct {
		k, c  int64
		text  string
		betti []int64
	}{
		{1, 2, "2:0;3:1*a2", peaks(0, 2)},
		{2, 2, "2:0;5:1*a3", peaks(0, 2, 4)},
		{3, 2, "2:0;7:1*a4", peaks(0, 2, 4, 6)},
		{4, 2, "2:0;9:1*a5", peaks(0, 2, 4, 6, 8)},
		{5, 2, "2:0;11:1*a6", peaks(0, 2, 4, 6, 8, 10)},
		{1, 4, "4:0;7:1*a2", peaks(0, 4)},
		{2, 4, "4:0;11:1*a3", peaks(0, 4, 8)},
	} {
		call := func() (impl.Algebra, int64) { return impl.ProjectiveModel(x.k, x.c) }
		name := "the projective space of " + strconv.FormatInt(x.k, 10) + " and " + strconv.FormatInt(x.c, 10)
		list = append(list, madeSpace{name, call, x.text, x.betti, x.k * x.c})
	}
	return list
}

func unitaryGroups() []madeSpace {
	var list []madeSpace
	text := ""
	var degrees []int64
	for n := int64(1); n <= 6; n++ {
		text += ";" + strconv.FormatInt(2*n-1, 10) + ":0"
		degrees = append(degrees, 2*n-1)
		call := func() (impl.Algebra, int64) { return impl.UnitaryModel(n) }
		list = append(list, madeSpace{"the unitary group of " + strconv.FormatInt(n, 10), call, text[1:], choices(degrees...), n * n})
	}
	return list
}

func tori() []madeSpace {
	betti := [][]int64{
		{1}, {1, 1}, {1, 2, 1}, {1, 3, 3, 1}, {1, 4, 6, 4, 1}, {1, 5, 10, 10, 5, 1}, {1, 6, 15, 20, 15, 6, 1},
		{1, 7, 21, 35, 35, 21, 7, 1}, {1, 8, 28, 56, 70, 56, 28, 8, 1},
	}
	var list []madeSpace
	for n := range int64(9) {
		call := func() (impl.Algebra, int64) { return impl.TorusModel(n) }
		text := strings.TrimPrefix(strings.Repeat(";1:0", int(n)), ";")
		list = append(list, madeSpace{"the torus of " + strconv.FormatInt(n, 10), call, text, betti[n], n})
	}
	return list
}

func heisenbergManifolds() []madeSpace {
	call := func(n int64) func() (impl.Algebra, int64) {
		return func() (impl.Algebra, int64) { return impl.HeisenbergModel(n) }
	}
	return []madeSpace{
		{"the Heisenberg manifold of 1", call(1), "1:0;1:0;1:1*ab", []int64{1, 2, 2, 1}, 3},
		{"the Heisenberg manifold of 2", call(2), "1:0;1:0;1:0;1:0;1:1*ab+1*cd", []int64{1, 4, 5, 5, 4, 1}, 5},
		{"the Heisenberg manifold of 3", call(3), "1:0;1:0;1:0;1:0;1:0;1:0;1:1*ab+1*cd+1*ef", []int64{1, 6, 14, 14, 14, 14, 6, 1}, 7},
	}
}

// madeSpaces has all known spaces.
func madeSpaces() []madeSpace {
	return slices.Concat(spheres(), projectiveSpaces(), unitaryGroups(), tori(), heisenbergManifolds())
}

// convolution returns the product of two series up to the degree m.
func convolution(x, y []int64, m int64) []int64 {
	product := make([]int64, m+1)
	for i, p := range x {
		for j, q := range y {
			if int64(i+j) <= m {
				product[i+j] += p * q
			}
		}
	}
	return product
}

// countMonomials counts the monomials of a degree n one by one, with any exponents of even generators.
func countMonomials(degrees []int64, n int64) int64 {
	if len(degrees) == 0 {
		if n == 0 {
			return 1
		}
		return 0
	}
	count := int64(0)
	for e := int64(0); e*degrees[0] <= n && (e < 2 || degrees[0]%2 == 0); e++ {
		count += countMonomials(degrees[1:], n-e*degrees[0])
	}
	return count
}

func seriesByWords(degrees []int64, m int64) []int64 {
	series := make([]int64, m+1)
	for n := range series {
		series[n] = countMonomials(degrees, int64(n))
	}
	return series
}

// isPureByWords asks each letter of each image.
func isPureByWords(a impl.Algebra) bool {
	for i, f := range a.Images {
		for _, x := range f.Terms {
			odd := slices.ContainsFunc(wordOf(x.Monomial), func(j int) bool { return a.Degrees[j]%2 == 1 })
			if odd || a.Degrees[i]%2 == 0 {
				return false
			}
		}
	}
	return true
}

// pureAlgebra returns an algebra that is pure, or pure but for a few generators that are put behind, told by other
// generators.
func pureAlgebra(t *testing.T, r *rand.Rand) impl.Algebra {
	t.Helper()
	a := impl.Algebra{}
	for range r.Intn(4) {
		a.Degrees, a.Images = append(a.Degrees, 2*(1+r.Int63n(3))), append(a.Images, impl.Form{})
	}
	even := a
	for range r.Intn(3) {
		n := 2*r.Int63n(6) + 1
		f := randomOfDegree(r, even, n+1)
		a.Degrees, a.Images = append(a.Degrees, n), append(a.Images, f)
	}
	for range r.Intn(3) / 2 {
		n := 1 + r.Int63n(6)
		a.Images = append(a.Images, randomClosed(r, a, n+1))
		a.Degrees = append(a.Degrees, n)
	}
	return shuffled(r, a)
}

// fibration has the parts of which FibrationOver makes an algebra.
type fibration struct {
	base    impl.Algebra
	degrees []int64
	forms   []impl.Form
}

// byWords returns the fibration, made generator by generator, and the code of the first error that is met.
func (x fibration) byWords() (impl.Algebra, int64) {
	if !impl.IsAlgebra(x.base) {
		return impl.Algebra{}, impl.ErrInvalid
	}
	if len(x.degrees) != len(x.forms) {
		return impl.Algebra{}, impl.ErrRange
	}
	a := impl.Algebra{Degrees: slices.Clone(x.base.Degrees), Images: slices.Clone(x.base.Images)}
	for i, f := range x.forms {
		n := x.degrees[i]
		degree, code := impl.DegreeOfForm(a.Degrees, f)
		switch {
		case code == impl.ErrInvalid:
			return impl.Algebra{}, impl.ErrInvalid
		case n < 1 || n > 12:
			return impl.Algebra{}, impl.ErrRange
		case code != impl.ErrNone || len(f.Terms) > 0 && degree != n+1 || len(differentialByWords(a, f).Terms) > 0:
			return impl.Algebra{}, impl.ErrState
		case len(a.Degrees) == 8:
			return impl.Algebra{}, impl.ErrLimit
		}
		a.Degrees, a.Images = append(a.Degrees, n), append(a.Images, f)
	}
	return a, impl.ErrNone
}

func (x fibration) check(t *testing.T) int64 {
	t.Helper()
	want, code := x.byWords()
	if got, found := impl.FibrationOver(x.base, x.degrees, x.forms); !sameAlgebras(got, want) || found != code {
		t.Fatalf("FibrationOver(%v, %v, %v) = %v, %d, not %v, %d", x.base, x.degrees, x.forms, got, found, want, code)
	}
	return code
}

// randomFibration returns a fibration with up to most further generators, whose images are closed forms of those
// ahead of them.
func randomFibration(t *testing.T, r *rand.Rand, most int) fibration {
	t.Helper()
	x := fibration{base: randomAlgebra(t, r, 4)}
	a := impl.Algebra{Degrees: slices.Clone(x.base.Degrees), Images: slices.Clone(x.base.Images)}
	for range r.Intn(most + 1) {
		if len(a.Degrees) == impl.MaxGenerators {
			break
		}
		n := 1 + r.Int63n(5)
		f := randomClosed(r, a, n+1)
		a.Degrees, a.Images = append(a.Degrees, n), append(a.Images, f)
		x.degrees, x.forms = append(x.degrees, n), append(x.forms, f)
	}
	return x
}
