package tests

import (
	"math/rand"
	"slices"
	"testing"

	"loop.example/g01219/impl"
)

// ledForm is a form with what d leads it to.
type ledForm struct {
	form, image impl.Form
}

func (x ledForm) minus(factor int64, y ledForm) ledForm {
	numbers := []int64{1, impl.FieldPrime - factor}
	return ledForm{combination(numbers, []impl.Form{x.form, y.form}), combination(numbers, []impl.Form{x.image, y.image})}
}

// kernel returns forms that span the space of all combinations of forms whose images are 0.
func kernel(list []ledForm) []impl.Form {
	var found []impl.Form
	others := map[impl.Monomial]ledForm{}
	for _, x := range list {
		for len(x.image.Terms) > 0 {
			first := x.image.Terms[0]
			y, met := others[first.Monomial]
			if !met {
				others[first.Monomial] = x
				break
			}
			x = x.minus(first.Factor*inverse(y.image.Terms[0].Factor)%impl.FieldPrime, y)
		}
		if len(x.image.Terms) == 0 {
			found = append(found, x.form)
		}
	}
	return found
}

// lettersOf returns the word length of a monomial.
func lettersOf(m impl.Monomial) int64 {
	return int64(len(wordOf(m)))
}

// filtered has the monomials of an algebra and what d leads them to, by degrees.
type filtered struct {
	a    impl.Algebra
	list map[int64][]ledForm
}

func filteredOf(a impl.Algebra) filtered {
	return filtered{a, map[int64][]ledForm{}}
}

// monomials returns those of a degree n, which may be -1.
func (x filtered) monomials(n int64) []ledForm {
	if _, found := x.list[n]; !found {
		for _, m := range allMonomials(x.a.Degrees, n) {
			f := formOf(impl.Term{Monomial: m, Factor: 1})
			x.list[n] = append(x.list[n], ledForm{f, differentialByWords(x.a, f)})
		}
	}
	return x.list[n]
}

// f returns the monomials in F(p, n).
func (x filtered) f(p, n int64) []ledForm {
	return slices.DeleteFunc(slices.Clone(x.monomials(n)), func(y ledForm) bool {
		return lettersOf(y.form.Terms[0].Monomial) < p
	})
}

// z returns forms that span Z(r, p, n).
func (x filtered) z(r, p, n int64) []impl.Form {
	list := x.f(p, n)
	for i, y := range list {
		// What has to be 0 is the part of d f that is not in F(p + r, n + 1).
		list[i].image.Terms = slices.DeleteFunc(slices.Clone(y.image.Terms), func(s impl.Term) bool { return lettersOf(s.Monomial) >= p+r })
	}
	return kernel(list)
}

// page returns the dimension of the page r at p and n, as the chapter tells it.
func (x filtered) page(r, p, n int64) int64 {
	if r == 0 {
		return int64(len(x.f(p, n)) - len(x.f(p+1, n)))
	}
	sum := spanOf(x.z(r-1, p+1, n))
	for _, g := range x.z(r-1, p-r+1, n-1) {
		sum.add(differentialByWords(x.a, g))
	}
	return int64(len(spanOf(x.z(r, p, n))) - len(sum))
}

func (x filtered) width(n int64) int64 {
	width := int64(0)
	for _, y := range x.monomials(n) {
		width = max(width, lettersOf(y.form.Terms[0].Monomial))
	}
	return width
}

// row returns the dimensions of the page r at n, from 0 to the width.
func (x filtered) row(r, n int64) []int64 {
	var row []int64
	for p := range x.width(n) + 1 {
		row = append(row, x.page(r, p, n))
	}
	return row
}

// stop returns the number at which the pages of n stop.
func (x filtered) stop(n int64) int64 {
	betti := int64(bettiByWords(x.a, n))
	r := int64(0)
	for total(x.row(r, n)) != betti {
		r++
	}
	return r
}

// filtration returns the filtration of a form: f and some boundary are in F(p, n) if the shorter part of f is
// that of a boundary.
func (x filtered) filtration(f impl.Form) int64 {
	n, p := degreeOf(x.a, f), int64(0)
	for x.shorterBoundaries(n, p+1).has(shorterPart(f, p+1)) {
		p++
	}
	return p
}

// shorterPart returns the terms of a form whose words are shorter than p.
func shorterPart(f impl.Form, p int64) impl.Form {
	return impl.Form{Terms: slices.DeleteFunc(slices.Clone(f.Terms), func(s impl.Term) bool { return lettersOf(s.Monomial) >= p })}
}

// shorterBoundaries returns the space of the shorter parts of all boundaries of a degree n.
func (x filtered) shorterBoundaries(n, p int64) space {
	s := space{}
	for _, y := range x.monomials(n - 1) {
		s.add(shorterPart(y.image, p))
	}
	return s
}

func total(numbers []int64) int64 {
	sum := int64(0)
	for _, k := range numbers {
		sum += k
	}
	return sum
}

// quadraticByWords returns the algebra whose images have the words of two letters alone.
func quadraticByWords(a impl.Algebra) impl.Algebra {
	b := impl.Algebra{Degrees: a.Degrees}
	for _, f := range a.Images {
		b.Images = append(b.Images, impl.Form{Terms: slices.DeleteFunc(slices.Clone(f.Terms), func(s impl.Term) bool { return lettersOf(s.Monomial) != 2 })})
	}
	return b
}

// isMinimalByWords reports whether no image has a word of one letter.
func isMinimalByWords(a impl.Algebra) bool {
	return !slices.ContainsFunc(a.Images, func(f impl.Form) bool {
		return slices.ContainsFunc(f.Terms, func(s impl.Term) bool { return lettersOf(s.Monomial) == 1 })
	})
}

// pageTexts returns texts of minimal algebras: without a differential, with generators of even and of odd
// degrees, with quadratic images, with images of a greater word length, and with both.
func pageTexts() []string {
	return append(minimalTexts()[:len(minimalTexts())-1],
		"1:0;1:0;1:0",
		"2:0;3:0;4:0",
		"3:0;3:0;5:0",
		"2:0;5:1*a3",
		"2:0;11:3*a6",
		"4:0;11:1*a3",
		"2:0;7:1*a4;9:1*a5",
		"2:0;3:1*a2;5:1*a3",
		"2:0;2:0;3:1*a2;3:1*ab;3:1*b2",
		"2:0;2:0;5:1*a3;5:1*b3;3:1*ab",
		"2:0;4:0;5:1*a3+1*ab;5:1*ab",
		"2:0;4:0;5:1*a3+2*ab;7:1*b2;3:0",
		"2:0;4:0;7:1*a4+1*b2",
		"2:0;6:0;7:1*a4+1*ab;11:1*b2",
		"1:0;1:0;1:1*ab;2:1*abc",
		"1:0;1:0;1:0;1:0;3:1*abcd;2:1*abc",
		"1:0;1:0;1:0;1:0;1:1*ab+1*cd",
		"1:0;2:1*ab;3:1*ac;4:1*ad",
		"1:0;2:0;3:1*b2;4:1*ab2",
		"2:0;3:1*a2;4:0;5:1*ac;7:1*c2",
		"2:0;3:1*a2;3:1*a2;4:1*ab+10006*ac",
		"1:0;1:0;1:0;1:0;1:0;4:1*abcde",
		"12:1*ab;1:0;12:0",
	)
}

func isMinimal(a impl.Algebra) bool {
	yes, code := impl.IsMinimal(a)
	return yes && code == impl.ErrNone
}

// withClosedLong returns an algebra with one more generator, whose image has few terms and mostly long words.
func withClosedLong(t *testing.T, r *rand.Rand, a impl.Algebra) impl.Algebra {
	t.Helper()
	n := 2 + r.Int63n(8)
	var long []impl.Form
	for _, y := range filteredOf(a).f(2, n+1) {
		if len(y.image.Terms) == 0 {
			long = append(long, y.form)
		}
	}
	slices.SortStableFunc(long, func(x, y impl.Form) int { return int(lettersOf(y.Terms[0].Monomial) - lettersOf(x.Terms[0].Monomial)) })
	sum := map[impl.Monomial]int64{}
	for range 1 + r.Intn(2) {
		if len(long) > 0 {
			addTerms(sum, 1+r.Int63n(impl.FieldPrime-1), long[r.Intn(1+r.Intn(len(long)))])
		}
	}
	if r.Intn(3) == 0 {
		addTerms(sum, 1, randomClosed(r, a, n+1))
	}
	b, code := impl.WithGenerator(a, n, formOfSum(sum))
	if code != impl.ErrNone {
		t.Fatalf("WithGenerator(%v, %d): code %d", a, n, code)
	}
	return b
}

// pageAlgebra returns a minimal algebra with at most most monomials of each of the degrees 0 to 21: one of those
// above, any small one, or one whose images have long words, whose generators have been changed.
func pageAlgebra(t *testing.T, r *rand.Rand, most int) impl.Algebra {
	t.Helper()
	texts := pageTexts()
	for {
		a := algebra(t, texts[r.Intn(len(texts))])
		if r.Intn(4) == 0 {
			a = smallAlgebra(t, r, 20, most)
		}
		for len(a.Degrees) > 0 && len(a.Degrees) < 6 && r.Intn(3) > 0 {
			a = withClosedLong(t, r, a)
		}
		for range r.Intn(3) {
			if len(a.Degrees) > 0 {
				i := r.Intn(len(a.Degrees))
				a = changedByWords(a, i, randomChange(r, a, i)).b
			}
		}
		if impl.IsAlgebra(a) && isMinimalByWords(a) && mostMonomials(a, 21) <= most {
			return shuffled(r, a)
		}
	}
}
