package tests

import (
	"math/rand"
	"slices"
	"testing"

	"loop.example/g01219/impl"
)

// changeCase has an algebra, a generator, a form, and the changed algebra, empty beside an error.
type changeCase struct {
	a    string
	i    int64
	f    string
	want string
	code int64
}

func changeCases() []changeCase {
	const sphere, heisenberg = "2:0;3:1*a2", "1:0;1:0;1:1*ab"
	return []changeCase{
		{sphere, 0, "0", sphere, impl.ErrNone},
		{sphere, 1, "0", sphere, impl.ErrNone},
		{"", 0, "0", "", impl.ErrRange},
		// The generator occurs in no image, and d f is 0.
		{"2:0;4:0;3:1*a2", 1, "5*a2", "2:0;4:0;3:1*a2", impl.ErrNone},
		// d f is added.
		{"2:0;3:1*a2;5:0", 2, "7*ab", "2:0;3:1*a2;5:7*a3", impl.ErrNone},
		{"2:0;3:1*a2;5:3*a3", 2, "10004*ab", "2:0;3:1*a2;5:0", impl.ErrNone},
		{"2:0;3:1*a2;3:0", 2, "1*b", "2:0;3:1*a2;3:1*a2", impl.ErrNone},
		{"2:0;3:1*a2;3:1*a2", 1, "10006*c", "2:0;3:0;3:1*a2", impl.ErrNone},
		// The generator is replaced in other images, in powers and behind odd generators.
		{"2:0;2:0;3:1*a2", 0, "1*b", "2:0;2:0;3:1*a2+10005*ab+1*b2", impl.ErrNone},
		{"2:0;2:0;3:1*ab", 1, "2*a", "2:0;2:0;3:10005*a2+1*ab", impl.ErrNone},
		{"2:0;2:0;5:1*a3", 0, "10006*b", "2:0;2:0;5:1*a3+3*a2b+3*ab2+1*b3", impl.ErrNone},
		{"2:0;4:0;7:1*b2", 1, "1*a2", "2:0;4:0;7:1*a4+10005*a2b+1*b2", impl.ErrNone},
		{heisenberg, 0, "1*b", heisenberg, impl.ErrNone},
		{heisenberg, 0, "4*b", heisenberg, impl.ErrNone},
		{heisenberg, 2, "4*a+5*b", heisenberg, impl.ErrNone},
		{"1:0;1:0;1:0;1:1*ab", 0, "1*c", "1:0;1:0;1:0;1:1*ab+1*bc", impl.ErrNone},
		{"1:0;1:0;1:0;1:1*ab", 1, "1*c", "1:0;1:0;1:0;1:1*ab+10006*ac", impl.ErrNone},
		{"1:0;1:0;1:0;3:0;4:1*abd;1:0", 3, "2*abc", "1:0;1:0;1:0;3:0;4:1*abd;1:0", impl.ErrNone},
		{"1:0;1:0;1:0;3:0;3:1*cd;1:0", 3, "2*abf", "1:0;1:0;1:0;3:0;3:10005*abcf+1*cd;1:0", impl.ErrNone},
		// Its own image has the generator.
		{"1:0;2:1*ab;1:0;1:0", 1, "3*cd", "1:0;2:1*ab+10004*acd;1:0;1:0", impl.ErrNone},
		{"1:0;2:1*ab;2:1*ac", 1, "6*c", "1:0;2:1*ab;2:1*ac", impl.ErrNone},
		{"1:0;2:1*ab;2:0", 1, "6*c", "1:0;2:1*ab+10001*ac;2:0", impl.ErrNone},
		// d f has the generator.
		{"1:0;2:0;2:1*ab", 1, "6*c", "1:0;2:6*ab+9971*ac;2:1*ab+10001*ac", impl.ErrNone},
		// Linear terms come and go.
		{"1:1*b;2:0;1:0", 2, "1*a", "1:1*b;2:0;1:1*b", impl.ErrNone},
		{"1:1*b;2:0;1:1*b", 0, "10006*c", "1:0;2:0;1:1*b", impl.ErrNone},
		{"3:1*b;4:0;2:0", 1, "1*c2", "3:1*b+10006*c2;4:0;2:0", impl.ErrNone},
		{"3:1*b+1*c2;4:0;2:0", 1, "1*c2", "3:1*b;4:0;2:0", impl.ErrNone},
		// The form has the generator, or another degree, or is not homogeneous.
		{sphere, 0, "1*a", "", impl.ErrState},
		{"2:0;2:0", 0, "1*a+1*b", "", impl.ErrState},
		{"2:0;2:0", 1, "1*a+1*b", "", impl.ErrState},
		{sphere, 0, "1*b", "", impl.ErrState},
		{sphere, 1, "1*a", "", impl.ErrState},
		{sphere, 1, "1*1", "", impl.ErrState},
		{sphere, 0, "1*1", "", impl.ErrState},
		{"2:0;2:0", 0, "1*b+1*1", "", impl.ErrState},
		{"2:0;4:0", 1, "1*a2+1*a", "", impl.ErrState},
		{"2:0;4:0", 1, "1*a20", "", impl.ErrState},
		{"2:0;4:0", 1, "1*ab", "", impl.ErrState},
		{"2:0;4:0", 1, "1*b20", "", impl.ErrState},
		{"2:0;12:0", 1, "1*a6", "2:0;12:0", impl.ErrNone},
	}
}

func TestChangeGenerator(t *testing.T) {
	for _, c := range changeCases() {
		a := algebra(t, c.a)
		got, code := impl.ChangeGenerator(a, c.i, parse(t, a.Degrees, c.f))
		if !sameAlgebras(got, algebra(t, c.want)) || code != c.code {
			t.Errorf("ChangeGenerator(%q, %d, %q) = %v, %d", c.a, c.i, c.f, got, code)
		}
	}
}

// checkIsomorphism checks that forms are a map from an algebra to another one, which tells the images of the other
// one if it has the same generators.
func checkIsomorphism(t *testing.T, x mapping) {
	t.Helper()
	if !impl.IsAlgebra(x.b) || !isAlgebraByWords(x.b) || !x.isMapByWords() || !impl.IsMap(x.a, x.b, x.m) {
		t.Fatalf("%v is no map of algebras", x)
	}
}

// TestChangesByWords counts changes that lead to other images: with several terms in the form, of odd
// generators, and of those that occur in their own image, in d of the form, or in powers.
func TestChangesByWords(t *testing.T) {
	r := rand.New(rand.NewSource(122))
	count := map[string]int{}
	for range 3000 {
		a := mixedAlgebra(t, r)
		i := r.Intn(len(a.Degrees))
		f := randomChange(r, a, i)
		want := changedByWords(a, i, f)
		if len(f.Terms) > impl.MaxTerms || !impl.IsAlgebra(want.b) {
			continue
		}
		want.b = changed(t, a, i, f)
		checkIsomorphism(t, want)
		if !sameAlgebras(want.b, changedByWords(a, i, f).b) {
			t.Fatalf("ChangeGenerator(%v, %d, %v) = %v", a, i, f, want.b)
		}
		if sameAlgebras(a, want.b) {
			continue
		}
		if len(f.Terms) > 1 {
			count["several terms"]++
		}
		if a.Degrees[i]%2 == 1 {
			count["odd"]++
		}
		if hasGenerator(a.Images[i], i) {
			count["own image"]++
		}
		if hasGenerator(differentialByWords(a, f), i) {
			count["d of the form"]++
		}
		for _, g := range a.Images {
			for _, x := range g.Terms {
				if x.Monomial[i] > 1 {
					count["powers"]++
				}
			}
		}
	}
	for name, least := range map[string]int{"several terms": 300, "odd": 300, "own image": 30, "d of the form": 10, "powers": 100} {
		if count[name] < least {
			t.Errorf("%q was met %d times: %v", name, count[name], count)
		}
	}
}

// evens has six even generators, of which there are 462 monomials of the degree 12 and 252 of the degree 10.
const evens = "2:0;2:0;2:0;2:0;2:0;2:0"

// firstMonomials returns the sum of some of the monomials of a degree n of the first six generators, each times
// a factor: of those from a place on, in order, up to another one.
func firstMonomials(a impl.Algebra, n int64, from int, to int, factor int64) impl.Form {
	var f impl.Form
	for _, m := range allMonomials(a.Degrees[:6], n)[from:to] {
		f.Terms = append(f.Terms, impl.Term{Monomial: m, Factor: factor})
	}
	return f
}

// withSum returns an algebra with a form added to the image of the generator i.
func withSum(a impl.Algebra, i int, f impl.Form) impl.Algebra {
	b := impl.Algebra{Degrees: a.Degrees, Images: slices.Clone(a.Images)}
	b.Images[i] = combination([]int64{1, 1}, []impl.Form{a.Images[i], f})
	return b
}

// checkTerms checks that a change leads to as many terms in the image of a generator as wanted, or to ErrLimit if
// these are too many.
func checkTerms(t *testing.T, a impl.Algebra, i int, f impl.Form, k int, want int) {
	t.Helper()
	if !impl.IsAlgebra(a) || !impl.IsForm(a.Degrees, f) {
		t.Fatalf("%v is no algebra, or the form with %d terms is none", a, len(f.Terms))
	}
	if x := changedByWords(a, i, f); len(x.b.Images[k].Terms) != want {
		t.Fatalf("the image has %d terms, not %d", len(x.b.Images[k].Terms), want)
	}
	got, code := impl.ChangeGenerator(a, int64(i), f)
	if want > impl.MaxTerms {
		if !isZeroAlgebra(got) || code != impl.ErrLimit {
			t.Errorf("ChangeGenerator that leads to %d terms: %v, %d", want, got, code)
		}
		return
	}
	if code != impl.ErrNone || !sameAlgebras(got, changedByWords(a, i, f).b) {
		t.Errorf("ChangeGenerator that leads to %d terms: code %d", want, code)
	}
}

// TestLimitsOfOtherImages changes a generator that occurs in the image of another one, or in none.
func TestLimitsOfOtherImages(t *testing.T) {
	a := algebra(t, evens+";12:0;11:1*g")
	for _, count := range []int{1, 398, 399, 400} {
		checkTerms(t, a, 6, firstMonomials(a, 12, 0, count, 5), 7, count+1)
		checkTerms(t, algebra(t, evens+";12:0;11:0"), 6, firstMonomials(a, 12, 0, count, 5), 7, 0)
	}
	// Terms that there are come to those of the form, or cancel.
	some := withSum(a, 7, firstMonomials(a, 12, 0, 200, 7))
	checkTerms(t, some, 6, firstMonomials(a, 12, 199, 399, 5), 7, 400)
	checkTerms(t, some, 6, firstMonomials(a, 12, 199, 400, 5), 7, 401)
	checkTerms(t, some, 6, firstMonomials(a, 12, 0, 400, 7), 7, 201)
	checkTerms(t, some, 6, firstMonomials(a, 12, 62, 462, 7), 7, 1+62+262)
}

// TestLimitsOfPowers changes a generator whose square is in the image of another one.
func TestLimitsOfPowers(t *testing.T) {
	a := algebra(t, evens+";6:0;11:1*g2")
	for count := 1; count <= 56; count++ {
		f := firstMonomials(a, 6, 0, count, 1)
		terms := map[impl.Monomial]bool{}
		for _, x := range f.Terms {
			for _, y := range f.Terms {
				m, _ := wordProduct(a.Degrees, x.Monomial, y.Monomial)
				terms[m] = true
			}
		}
		rest := impl.MaxTerms - 1 - count - len(terms)
		if rest < 1 || rest > 20 {
			continue
		}
		// Some of the other monomials of the degree 12 fill the image up.
		var others impl.Form
		for _, x := range firstMonomials(a, 12, 0, 462, 1).Terms {
			if !terms[x.Monomial] {
				others.Terms = append(others.Terms, x)
			}
		}
		checkTerms(t, withSum(a, 7, formOf(others.Terms[:rest]...)), 6, f, 7, 400)
		checkTerms(t, withSum(a, 7, formOf(others.Terms[:rest+1]...)), 6, f, 7, 401)
		return
	}
	t.Errorf("no square has nearly as many terms as there may be")
}

// TestLimitsOfOwnImages changes a generator by a form f with d f of 434 terms, some of which cancel those of its
// image: only the terms count that are there in the end.
func TestLimitsOfOwnImages(t *testing.T) {
	a := algebra(t, evens+";1:1*a+1*b+1*c;11:0")
	f := productByWords(a.Degrees, generator(6, 1), firstMonomials(a, 10, 0, 252, 1))
	df := differentialByWords(a, f)
	if len(df.Terms) != 434 {
		t.Fatalf("d f has %d terms", len(df.Terms))
	}
	opposite := func(count int) impl.Form {
		return combination([]int64{impl.FieldPrime - 1}, []impl.Form{formOf(df.Terms[:count]...)})
	}
	checkTerms(t, a, 7, f, 7, 434)
	checkTerms(t, withSum(a, 7, opposite(33)), 7, f, 7, 401)
	checkTerms(t, withSum(a, 7, opposite(34)), 7, f, 7, 400)
	checkTerms(t, withSum(a, 7, opposite(400)), 7, f, 7, 34)
	var part impl.Form
	for count := 252; len(part.Terms) == 0 || len(differentialByWords(a, part).Terms) > 399; count-- {
		part = formOf(f.Terms[:count]...)
	}
	least := len(differentialByWords(a, part).Terms)
	for _, rest := range []int{400 - least, 401 - least} {
		var others impl.Form
		for _, x := range firstMonomials(a, 12, 0, 462, 1).Terms {
			if !occurs(x.Monomial, differentialByWords(a, part)) && len(others.Terms) < rest {
				others.Terms = append(others.Terms, x)
			}
		}
		checkTerms(t, withSum(a, 7, others), 7, part, 7, least+rest)
	}
}

// TestLimitsBeforeGeneratorsAreReplaced changes a generator that occurs in its own image. With it, the sum of
// this and d f has up to 463 terms; with what it is replaced by, fewer.
func TestLimitsBeforeGeneratorsAreReplaced(t *testing.T) {
	// d leads each monomial of the degree 12 of the first six generators to this monomial times g.
	a := algebra(t, "2:1668*ag;2:1668*bg;2:1668*cg;2:1668*dg;2:1668*eg;2:1668*fg;1:0;12:1*gh")
	f := firstMonomials(a, 12, 62, 462, 7)
	if df := differentialByWords(a, f); !sameForms(df, productByWords(a.Degrees, f, generator(6, 1))) {
		t.Fatalf("d f is %v", df)
	}
	for _, count := range []int{0, 300, 399} {
		h := productByWords(a.Degrees, firstMonomials(a, 12, 0, count, 5), generator(6, 1))
		checkTerms(t, withSum(a, 7, h), 7, f, 7, count+1)
	}
}
