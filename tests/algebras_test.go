package tests

import (
	"math/rand"
	"slices"
	"testing"

	"loop.example/g01219/impl"
)

// algebra returns the algebra with a text.
func algebra(t *testing.T, text string) impl.Algebra {
	t.Helper()
	a, code := impl.ParseAlgebra(text)
	if code != impl.ErrNone {
		t.Fatalf("ParseAlgebra(%q): code %d", text, code)
	}
	return a
}

func sameAlgebras(a, b impl.Algebra) bool {
	return slices.Equal(a.Degrees, b.Degrees) && slices.EqualFunc(a.Images, b.Images, sameForms)
}

func isZeroAlgebra(a impl.Algebra) bool {
	return len(a.Degrees) == 0 && len(a.Images) == 0
}

// algebraOf returns the algebra with degrees and the texts of images, without asking whether it is
// one.
func algebraOf(t *testing.T, degrees []int64, images ...string) impl.Algebra {
	t.Helper()
	a := impl.Algebra{Degrees: degrees}
	for _, text := range images {
		a.Images = append(a.Images, parse(t, degrees, text))
	}
	return a
}

// goodTexts returns texts of algebras: without generators, with as many as there may be, with
// generators that need later ones, or their own rank, and with linear images.
func goodTexts() []string {
	return []string{
		"",
		"1:0",
		"12:0",
		"2:0;3:1*a2",
		"3:1*b2;2:0",
		"2:0;5:10006*a3",
		"1:0;1:0;1:1*ab",
		"1:0;1:0;1:1*ab;1:3*ac;1:1*ad",
		"1:1*b;2:0",
		"4:5*b;5:0;2:0",
		"1:0;2:1*ab",
		"1:0;2:1*ab;3:1*ac;4:1*ad",
		"1:0;2:1*ac;2:1*ab+1*ac",
		"1:1*bc;1:1*ac;1:1*ab",
		"2:0;3:1*a2;3:1*a2;4:1*ab+10006*ac",
		"2:0;3:0;4:1*ab;6:1*bc",
		"2:0;2:0;3:1*a2;3:1*ab;3:1*b2;4:10006*ad+1*bc",
		"1:0;1:0;1:0;1:0;1:0;1:0;1:0;1:0",
		"12:0;12:0;12:0;12:0;12:0;12:0;12:0;12:0",
		"2:0;2:0;2:0;2:0;12:0;11:1*a2b2cd+1*e;11:2*a6;5:1*abc",
		"12:1*ab;1:0;12:0",
	}
}

// goodAlgebras returns the algebras with the texts above.
func goodAlgebras(t *testing.T) []impl.Algebra {
	t.Helper()
	var list []impl.Algebra
	for _, text := range goodTexts() {
		list = append(list, algebra(t, text))
	}
	return list
}

// badAlgebras returns what is no algebra.
func badAlgebras(t *testing.T) []impl.Algebra {
	t.Helper()
	list := []impl.Algebra{
		{Degrees: []int64{2}},
		{Images: []impl.Form{{}}},
		{Degrees: []int64{2, 3}, Images: []impl.Form{{}}},
		{Degrees: []int64{2, 3}, Images: []impl.Form{{}, {}, {}}},
		{Degrees: []int64{2, 3}, Images: []impl.Form{{}, formOf(term(1, 2)), {}}},
		{Degrees: []int64{2, 3}, Images: []impl.Form{{}, formOf(term(10007, 2))}},
		{Degrees: []int64{2, 3}, Images: []impl.Form{{}, formOf(term(0, 2))}},
		{Degrees: []int64{2, 3}, Images: []impl.Form{{}, formOf(term(1, 2), term(1, 2))}},
		{Degrees: []int64{2, 3}, Images: []impl.Form{{}, formOf(term(1, 2, 0, 1))}},
		{Degrees: []int64{2, 5, 5}, Images: []impl.Form{{}, {}, formOf(term(1, 3), term(1, 0, 2))}},
		algebraOf(t, []int64{2, 3}, "0", "1*a"),
		algebraOf(t, []int64{2, 3}, "0", "1*a3"),
		algebraOf(t, []int64{2, 3}, "0", "1*b"),
		algebraOf(t, []int64{2, 3}, "0", "1*1"),
		algebraOf(t, []int64{2, 3}, "0", "1*a2+1*a"),
		algebraOf(t, []int64{2, 3}, "0", "1*a2+1*b"),
		algebraOf(t, []int64{2, 3}, "0", "1*a2+1*1"),
		algebraOf(t, []int64{2, 3}, "1*1", "0"),
		algebraOf(t, []int64{2, 3}, "1*a", "0"),
		algebraOf(t, []int64{2, 3}, "1*b", "1*a2"),
		algebraOf(t, []int64{1, 2, 3}, "1*b", "1*c", "0"),
		algebraOf(t, []int64{2, 3, 4}, "0", "1*a2", "1*ab"),
		algebraOf(t, []int64{4, 3, 2}, "1*bc", "1*c2", "0"),
		algebraOf(t, []int64{2, 3, 3, 4}, "0", "1*a2", "1*a2", "1*ab+1*ac"),
		algebraOf(t, []int64{2, 3, 3, 4}, "0", "1*a2", "1*a2", "1*ab+10005*ac"),
		algebraOf(t, []int64{1, 2, 2}, "1*b", "1*ac", "0"),
		algebraOf(t, []int64{1, 1, 1}, "1*ab", "1*bc", "0"),
	}
	for _, f := range badForms() {
		list = append(list, impl.Algebra{Degrees: []int64{1, 2}, Images: []impl.Form{f, {}}}, impl.Algebra{Degrees: []int64{1, 2}, Images: []impl.Form{{}, f}})
	}
	for _, degrees := range badDegrees() {
		list = append(list, impl.Algebra{Degrees: degrees, Images: make([]impl.Form, len(degrees))})
	}
	return list
}

// wordOf returns the generators of a monomial one behind the other.
func wordOf(m impl.Monomial) []int {
	var word []int
	for i, e := range m {
		for range e {
			word = append(word, i)
		}
	}
	return word
}

func monomialOf(word []int) impl.Monomial {
	var m impl.Monomial
	for _, i := range word {
		m[i]++
	}
	return m
}

// addByWords adds d of a term to a sum. It replaces one letter after the other in the word of the
// monomial, and d changes its sign with each odd letter that it passes.
func addByWords(sum map[impl.Monomial]int64, a impl.Algebra, x impl.Term) {
	word := wordOf(x.Monomial)
	sign := int64(1)
	for at, i := range word {
		ahead, behind := monomialOf(word[:at]), monomialOf(word[at+1:])
		for _, y := range a.Images[i].Terms {
			left, leftSign := wordProduct(a.Degrees, ahead, y.Monomial)
			m, rightSign := wordProduct(a.Degrees, left, behind)
			sum[m] = (sum[m] + sign*leftSign*rightSign*x.Factor*y.Factor) % impl.FieldPrime
		}
		if a.Degrees[i]%2 == 1 {
			sign = -sign
		}
	}
}

// differentialByWords returns d f, without asking for limits.
func differentialByWords(a impl.Algebra, f impl.Form) impl.Form {
	sum := map[impl.Monomial]int64{}
	for _, x := range f.Terms {
		addByWords(sum, a, x)
	}
	return formOfSum(sum)
}

// isAlgebraByWords reports whether forms for degrees are the images of an algebra.
func isAlgebraByWords(a impl.Algebra) bool {
	for i, f := range a.Images {
		for _, x := range f.Terms {
			sum := int64(0)
			for j, n := range a.Degrees {
				sum += n * int64(x.Monomial[j])
			}
			if sum != a.Degrees[i]+1 {
				return false
			}
		}
		if len(differentialByWords(a, f).Terms) > 0 {
			return false
		}
	}
	return true
}

// randomClosed returns a closed form of a degree n: a sum of few monomials that are closed and
// differentials of monomials.
func randomClosed(r *rand.Rand, a impl.Algebra, n int64) impl.Form {
	var found []impl.Form
	closed, _ := impl.MonomialsOf(a.Degrees, n)
	for _, m := range closed {
		f := formOf(impl.Term{Monomial: m, Factor: 1})
		if len(differentialByWords(a, f).Terms) == 0 {
			found = append(found, f)
		}
	}
	lower, _ := impl.MonomialsOf(a.Degrees, n-1)
	for _, m := range lower {
		if f := differentialByWords(a, formOf(impl.Term{Monomial: m, Factor: 1})); len(f.Terms) > 0 {
			found = append(found, f)
		}
	}
	sum := map[impl.Monomial]int64{}
	for range r.Intn(4) {
		if len(found) == 0 {
			break
		}
		factor := r.Int63n(impl.FieldPrime)
		for _, x := range found[r.Intn(len(found))].Terms {
			sum[x.Monomial] = (sum[x.Monomial] + factor*x.Factor) % impl.FieldPrime
		}
	}
	return formOfSum(sum)
}

// shuffled returns an algebra with its generators in another order.
func shuffled(r *rand.Rand, a impl.Algebra) impl.Algebra {
	place := r.Perm(len(a.Degrees))
	b := impl.Algebra{Degrees: make([]int64, len(place)), Images: make([]impl.Form, len(place))}
	for i, n := range a.Degrees {
		b.Degrees[place[i]] = n
	}
	for i, f := range a.Images {
		sum := map[impl.Monomial]int64{}
		for _, x := range f.Terms {
			m, sign := impl.Monomial{}, int64(1)
			for _, letter := range wordOf(x.Monomial) {
				var next int64
				m, next = wordProduct(b.Degrees, m, monomialOf([]int{place[letter]}))
				sign *= next
			}
			sum[m] += sign * x.Factor
		}
		b.Images[place[i]] = formOfSum(sum)
	}
	return b
}

// randomAlgebra returns an algebra with at most count generators, mostly of low degrees. Some have
// generators that need their own rank, or linear images.
func randomAlgebra(t *testing.T, r *rand.Rand, count int) impl.Algebra {
	t.Helper()
	a := algebra(t, []string{"", "", "", "1:0;2:1*ab", "1:1*b;2:0"}[r.Intn(5)])
	for wanted := r.Intn(count + 1); len(a.Degrees) < wanted; {
		n := 1 + r.Int63n([]int64{3, 5, 12}[r.Intn(3)])
		a.Images = append(a.Images, randomClosed(r, a, n+1))
		a.Degrees = append(a.Degrees, n)
	}
	if len(a.Degrees) > count {
		return impl.Algebra{}
	}
	return shuffled(r, a)
}

// randomPart returns a homogeneous form with at most count terms, and its degree, 0 for 0.
func randomPart(r *rand.Rand, degrees []int64, count int, top int) (impl.Form, int64) {
	f := randomForm(r, degrees, 1, top)
	if len(f.Terms) == 0 {
		return f, 0
	}
	n, _ := impl.DegreeOfForm(degrees, f)
	if n > 16 { // so that products stay within the limits
		return f, n
	}
	all, _ := impl.MonomialsOf(degrees, n)
	sum := map[impl.Monomial]int64{f.Terms[0].Monomial: f.Terms[0].Factor}
	for range count - 1 {
		if len(all) > 0 {
			sum[all[r.Intn(len(all))]] = 1 + r.Int63n(impl.FieldPrime-1)
		}
	}
	return formOfSum(sum), n
}
