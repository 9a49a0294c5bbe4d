package tests

import (
	"math/rand"
	"slices"
	"testing"

	"loop.example/g01219/impl"
)

// space is a space of forms of one degree. It has a form for each first monomial that its forms may
// have.
type space map[impl.Monomial]impl.Form

// rest takes forms of the space away from f, until no first monomial of it can be taken away.
func (s space) rest(f impl.Form) impl.Form {
	sum := map[impl.Monomial]int64{}
	addTerms(sum, 1, f)
	for f = formOfSum(sum); len(f.Terms) > 0; f = formOfSum(sum) {
		other, found := s[f.Terms[0].Monomial]
		if !found {
			return f
		}
		addTerms(sum, impl.FieldPrime-f.Terms[0].Factor, other)
	}
	return f
}

// add adds a form to what spans the space, and reports whether the space becomes greater.
func (s space) add(f impl.Form) bool {
	f = s.rest(f)
	if len(f.Terms) == 0 {
		return false
	}
	sum := map[impl.Monomial]int64{}
	addTerms(sum, inverse(f.Terms[0].Factor), f)
	s[f.Terms[0].Monomial] = formOfSum(sum)
	return true
}

func (s space) has(f impl.Form) bool {
	return len(s.rest(f).Terms) == 0
}

func addTerms(sum map[impl.Monomial]int64, factor int64, f impl.Form) {
	for _, x := range f.Terms {
		sum[x.Monomial] = (sum[x.Monomial] + factor*x.Factor) % impl.FieldPrime
	}
}

func inverse(x int64) int64 {
	y, _ := impl.InverseNumber(x)
	return y
}

// combination returns the sum of forms times numbers.
func combination(numbers []int64, forms []impl.Form) impl.Form {
	sum := map[impl.Monomial]int64{}
	for i, k := range numbers {
		addTerms(sum, k, forms[i])
	}
	return formOfSum(sum)
}

// minus returns f less g.
func minus(f, g impl.Form) impl.Form {
	return combination([]int64{1, impl.FieldPrime - 1}, []impl.Form{f, g})
}

// spanOf returns the space of all combinations of forms.
func spanOf(forms []impl.Form) space {
	s := space{}
	for _, f := range forms {
		s.add(f)
	}
	return s
}

// imagesOfMonomials returns d of all monomials of a degree n, which may be -1.
func imagesOfMonomials(a impl.Algebra, n int64) []impl.Form {
	var images []impl.Form
	for _, m := range allMonomials(a.Degrees, n) {
		images = append(images, differentialByWords(a, formOf(impl.Term{Monomial: m, Factor: 1})))
	}
	return images
}

// boundariesByWords returns the space of the boundaries of a degree n.
func boundariesByWords(a impl.Algebra, n int64) space {
	return spanOf(imagesOfMonomials(a, n-1))
}

// bettiByWords returns the Betti number of a degree n.
func bettiByWords(a impl.Algebra, n int64) int {
	images := imagesOfMonomials(a, n)
	return len(images) - len(spanOf(images)) - len(boundariesByWords(a, n))
}

// isReduced reports whether a list is reduced, as the chapter tells it.
func isReduced(forms []impl.Form) bool {
	for i, f := range forms {
		if len(f.Terms) == 0 || f.Terms[0].Factor != 1 {
			return false
		}
		for j, g := range forms {
			if j != i && occurs(f.Terms[0].Monomial, g) {
				return false
			}
		}
		if i > 0 && !isAhead(forms[i-1].Terms[0].Monomial, f.Terms[0].Monomial) {
			return false
		}
	}
	return true
}

func occurs(m impl.Monomial, f impl.Form) bool {
	return slices.ContainsFunc(f.Terms, func(x impl.Term) bool { return x.Monomial == m })
}

// isAhead reports whether m has the greater exponent at the first place where m and k differ.
func isAhead(m, k impl.Monomial) bool {
	return slices.Compare(m[:], k[:]) > 0
}

// isReducedBy reports whether reducing f by a reduced list would not change it.
func isReducedBy(f impl.Form, list []impl.Form) bool {
	return !slices.ContainsFunc(list, func(g impl.Form) bool { return occurs(g.Terms[0].Monomial, f) })
}

func sameFormLists(x, y []impl.Form) bool {
	return slices.EqualFunc(x, y, sameForms)
}

// parseAll returns the forms with texts.
func parseAll(t *testing.T, degrees []int64, texts []string) []impl.Form {
	t.Helper()
	var forms []impl.Form
	for _, text := range texts {
		forms = append(forms, parse(t, degrees, text))
	}
	return forms
}

// closedForms, boundaryForms and classForms return what the functions do for what is within the
// limits.
func closedForms(t *testing.T, a impl.Algebra, n int64) []impl.Form {
	t.Helper()
	forms, code := impl.ClosedForms(a, n)
	if code != impl.ErrNone {
		t.Fatalf("ClosedForms(%v, %d): code %d", a, n, code)
	}
	return forms
}

func boundaryForms(t *testing.T, a impl.Algebra, n int64) []impl.Form {
	t.Helper()
	forms, code := impl.BoundaryForms(a, n)
	if code != impl.ErrNone {
		t.Fatalf("BoundaryForms(%v, %d): code %d", a, n, code)
	}
	return forms
}

func classForms(t *testing.T, a impl.Algebra, n int64) []impl.Form {
	t.Helper()
	forms, code := impl.ClassForms(a, n)
	if code != impl.ErrNone {
		t.Fatalf("ClassForms(%v, %d): code %d", a, n, code)
	}
	return forms
}

// knownAlgebra has the Betti numbers of an algebra; all others, up to MaxAsked, are 0. It has the
// length of products up to MaxAsked.
type knownAlgebra struct {
	text   string
	betti  []int64
	length int64
}

// knownAlgebras returns algebras whose cohomology is known: of spheres, projective spaces, tori, of
// products, of the Heisenberg manifold, and others.
func knownAlgebras() []knownAlgebra {
	return []knownAlgebra{
		{"", []int64{1}, 0},
		{"1:0", []int64{1, 1}, 1},
		{"3:0", []int64{1, 0, 0, 1}, 1},
		{"11:0", []int64{1, 0, 0, 0, 0, 0, 0, 0, 0, 0, 0, 1}, 1},
		{"2:0", []int64{1, 0, 1, 0, 1, 0, 1, 0, 1, 0, 1, 0, 1, 0, 1, 0, 1, 0, 1, 0, 1}, 10},
		{"12:0", []int64{1, 0, 0, 0, 0, 0, 0, 0, 0, 0, 0, 0, 1}, 1},
		{"2:0;3:1*a2", []int64{1, 0, 1}, 1},
		{"3:7*b2;2:0", []int64{1, 0, 1}, 1},
		{"6:0;11:5*a2", []int64{1, 0, 0, 0, 0, 0, 1}, 1},
		{"2:0;5:1*a3", []int64{1, 0, 1, 0, 1}, 2},
		{"2:0;11:3*a6", []int64{1, 0, 1, 0, 1, 0, 1, 0, 1, 0, 1}, 5},
		{"4:0;11:1*a3", []int64{1, 0, 0, 0, 1, 0, 0, 0, 1}, 2},
		{"1:0;1:0;1:0", []int64{1, 3, 3, 1}, 3},
		{"1:0;1:0;1:0;1:0;1:0;1:0;1:0;1:0", []int64{1, 8, 28, 56, 70, 56, 28, 8, 1}, 8},
		{"2:0;3:1*a2;2:0;3:1*c2", []int64{1, 0, 2, 0, 1}, 2},
		{"2:0;3:1*a2;3:0", []int64{1, 0, 1, 1, 0, 1}, 2},
		{"3:0;3:0;5:0", []int64{1, 0, 0, 2, 0, 1, 1, 0, 2, 0, 0, 1}, 3},
		{"2:0;5:1*a3;1:0", []int64{1, 1, 1, 1, 1, 1}, 3},
		{"1:0;1:0;1:1*ab", []int64{1, 2, 2, 1}, 2},
		{"1:0;1:0;1:0;1:0;1:1*ab+1*cd", []int64{1, 4, 5, 5, 4, 1}, 3},
		{"1:1*b;2:0", []int64{1}, 0},
		{"1:0;2:1*ab", []int64{1, 1}, 1},
		{"1:1*bc;1:1*ac;1:1*ab", []int64{1, 0, 0, 1}, 1},
		{"4:5*b;5:0", []int64{1}, 0},
		{"2:0;2:0;3:1*a2;3:1*ab;3:1*b2", []int64{1, 0, 2, 0, 0, 2, 0, 1}, 2},
	}
}

// randomNumbers returns numbers of the field, some of which are 0.
func randomNumbers(r *rand.Rand, count int) []int64 {
	numbers := make([]int64, count)
	for i := range numbers {
		numbers[i] = r.Int63n(impl.FieldPrime) * r.Int63n(2)
	}
	return numbers
}

// randomOfDegree returns a form of a degree n, mostly with about half of the monomials.
func randomOfDegree(r *rand.Rand, a impl.Algebra, n int64) impl.Form {
	monomials := allMonomials(a.Degrees, n)
	sum := map[impl.Monomial]int64{}
	for i, k := range randomNumbers(r, len(monomials)) {
		sum[monomials[i]] = k
	}
	return formOfSum(sum)
}

// smallAlgebra returns an algebra, mostly with low degrees, that has at most most monomials of each of
// the degrees 0 to top + 1.
func smallAlgebra(t *testing.T, r *rand.Rand, top int64, most int) impl.Algebra {
	t.Helper()
	for {
		a := randomAlgebra(t, r, 5)
		for range r.Intn(9 - len(a.Degrees)) {
			n := 1 + r.Int63n(3)
			a.Images = append(a.Images, randomClosed(r, a, n+1))
			a.Degrees = append(a.Degrees, n)
		}
		if mostMonomials(a, top+1) <= most {
			return shuffled(r, a)
		}
	}
}

// mostMonomials returns the greatest number of monomials of one of the degrees 0 to n.
func mostMonomials(a impl.Algebra, n int64) int {
	most := 0
	for i := range n + 1 {
		most = max(most, len(allMonomials(a.Degrees, i)))
	}
	return most
}
