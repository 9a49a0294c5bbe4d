package tests

import (
	"math/rand"
	"slices"
	"testing"

	"loop.example/g01219/impl"
)

func TestProductOfClasses(t *testing.T) {
	cases := []struct {
		algebra    string
		n, i, m, j int64
		want       []int64
		code       int64
	}{
		{"", 0, 0, 0, 0, []int64{1}, impl.ErrNone},
		{"", 0, 1, 0, 0, nil, impl.ErrRange},
		{"", 0, 0, 1, 0, nil, impl.ErrRange},
		{"2:0;5:1*a3", 0, 0, 2, 0, []int64{1}, impl.ErrNone},
		{"2:0;5:1*a3", 4, 0, 0, 0, []int64{1}, impl.ErrNone},
		{"2:0;5:1*a3", 2, 0, 2, 0, []int64{1}, impl.ErrNone},
		{"2:0;5:1*a3", 2, 0, 4, 0, nil, impl.ErrNone},
		{"2:0;5:1*a3", 4, 0, 4, 0, nil, impl.ErrNone},
		{"2:0;5:1*a3", 2, 1, 2, 0, nil, impl.ErrRange},
		{"2:0;5:1*a3", 2, 0, 2, 1, nil, impl.ErrRange},
		{"2:0;5:1*a3", 1, 0, 2, 0, nil, impl.ErrRange},
		{"2:0;5:1*a3", 2, 0, 6, 0, nil, impl.ErrRange},
		{"2:0;5:1*a3", 20, 0, 0, 0, nil, impl.ErrRange},
		{"1:0;1:0", 1, 0, 1, 1, []int64{1}, impl.ErrNone},
		{"1:0;1:0", 1, 1, 1, 0, []int64{10006}, impl.ErrNone},
		{"1:0;1:0", 1, 1, 1, 1, []int64{0}, impl.ErrNone},
		{"1:0;1:0", 1, 1, 2, 0, nil, impl.ErrNone},
		{"3:0;5:0", 3, 0, 5, 0, []int64{1}, impl.ErrNone},
		{"3:0;5:0", 5, 0, 3, 0, []int64{10006}, impl.ErrNone},
		{"2:0;3:0", 2, 0, 3, 0, []int64{1}, impl.ErrNone},
		{"2:0;3:0", 3, 0, 2, 0, []int64{1}, impl.ErrNone},
		{"2:0", 10, 0, 10, 0, []int64{1}, impl.ErrNone},
		{"2:0", 20, 0, 0, 0, []int64{1}, impl.ErrNone},
		{"2:0", 0, 0, 20, 0, []int64{1}, impl.ErrNone},
		{"2:0", 10, 0, 11, 0, nil, impl.ErrRange},
		{"2:0", 20, 0, 2, 0, nil, impl.ErrRange},
		{"2:0;2:0;3:1*a2+3*ab", 2, 0, 2, 0, []int64{10004, 0}, impl.ErrNone},
		{"2:0;2:0;3:1*a2+3*ab", 2, 0, 2, 1, []int64{1, 0}, impl.ErrNone},
		{"2:0;2:0;3:1*a2+3*ab", 2, 1, 2, 1, []int64{0, 1}, impl.ErrNone},
		{"1:0;1:0;1:1*ab", 1, 0, 1, 1, []int64{0, 0}, impl.ErrNone},
		{"1:0;1:0;1:1*ab", 1, 0, 2, 0, []int64{0}, impl.ErrNone},
		{"1:0;1:0;1:1*ab", 1, 0, 2, 1, []int64{1}, impl.ErrNone},
		{"1:0;1:0;1:1*ab", 2, 1, 1, 0, []int64{1}, impl.ErrNone},
		{"1:0;1:0;1:1*ab", 1, 1, 2, 0, []int64{10006}, impl.ErrNone},
	}
	for _, c := range cases {
		if got, code := impl.ProductOfClasses(algebra(t, c.algebra), c.n, c.i, c.m, c.j); !slices.Equal(got, c.want) || code != c.code {
			t.Errorf("ProductOfClasses(%q, %d, %d, %d, %d) = %v, %d", c.algebra, c.n, c.i, c.m, c.j, got, code)
		}
	}
}

// TestProductsOfClassesByWords multiplies class forms: less the combination of class forms that the
// function tells, they are boundaries. Turned round, they have the sign that the degrees tell.
func TestProductsOfClassesByWords(t *testing.T) {
	r := rand.New(rand.NewSource(56))
	some, reduced, signs := 0, 0, 0
	for range 400 {
		a := smallAlgebra(t, r, 8, 40)
		n := r.Int63n(9)
		m := r.Int63n(9 - n)
		left, right, forms := classForms(t, a, n), classForms(t, a, m), classForms(t, a, n+m)
		below := boundariesByWords(a, n+m)
		for range min(len(left), len(right), 1) * 10 {
			i, j := r.Intn(len(left)), r.Intn(len(right))
			got, code := impl.ProductOfClasses(a, n, int64(i), m, int64(j))
			product := times(t, a.Degrees, left[i], right[j])
			if code != impl.ErrNone || len(got) != len(forms) || !below.has(minus(product, combination(got, forms))) {
				t.Fatalf("ProductOfClasses(%v, %d, %d, %d, %d) = %v, %d", a, n, i, m, j, got, code)
			}
			sign := 1 - n%2*(m%2)*2
			turned, code := impl.ProductOfClasses(a, m, int64(j), n, int64(i))
			if want := scaledNumbers(sign, got); code != impl.ErrNone || !slices.Equal(turned, want) {
				t.Fatalf("%v: the products of %v and %v are %v and %v", a, left[i], right[j], got, turned)
			}
			if combined := combination(got, forms); len(combined.Terms) > 0 && n > 0 && m > 0 {
				some++
				if !sameForms(combined, product) {
					reduced++
				}
				if sign < 0 {
					signs++
				}
			}
		}
	}
	if some < 300 || reduced < 30 || signs < 30 {
		t.Errorf("only %d products, %d of which are reduced, and %d with a sign", some, reduced, signs)
	}
}

// scaledNumbers returns numbers of the field times a factor.
func scaledNumbers(factor int64, numbers []int64) []int64 {
	list := slices.Clone(numbers)
	for i, x := range list {
		list[i] = ((factor*x)%impl.FieldPrime + impl.FieldPrime) % impl.FieldPrime
	}
	return list
}

func TestIndicesOfClassForms(t *testing.T) {
	r := rand.New(rand.NewSource(57))
	for range 200 {
		a := smallAlgebra(t, r, 8, 40)
		n, m := r.Int63n(5), r.Int63n(5)
		left, right := int64(len(classForms(t, a, n))), int64(len(classForms(t, a, m)))
		for _, i := range []int64{-1, 0, left - 1, left} {
			for _, j := range []int64{-1, 0, right - 1, right} {
				want := int64(impl.ErrNone)
				if i < 0 || i >= left || j < 0 || j >= right {
					want = impl.ErrRange
				}
				if got, code := impl.ProductOfClasses(a, n, i, m, j); code != want || code != impl.ErrNone && len(got) != 0 {
					t.Fatalf("ProductOfClasses(%v, %d, %d, %d, %d) = %v, %d", a, n, i, m, j, got, code)
				}
			}
		}
	}
}

// lengthCase has the length of products of an algebra up to m.
type lengthCase struct {
	algebra string
	m, want int64
}

func checkLengths(t *testing.T, cases []lengthCase) {
	t.Helper()
	for _, c := range cases {
		if got, code := impl.LengthOfProducts(algebra(t, c.algebra), c.m); got != c.want || code != impl.ErrNone {
			t.Errorf("LengthOfProducts(%q, %d) = %d, %d", c.algebra, c.m, got, code)
		}
	}
}

func TestLengthOfProducts(t *testing.T) {
	checkLengths(t, []lengthCase{
		{"", 0, 0},
		{"", 20, 0},
		{"1:0", 0, 0},
		{"1:0", 1, 1},
		{"12:0", 11, 0},
		{"12:0", 12, 1},
		{"1:1*b;2:0", 20, 0},
		{"2:0", 1, 0},
		{"2:0", 3, 1},
		{"2:0", 20, 10},
		{"2:0;11:3*a6", 3, 1},
		{"2:0;11:3*a6", 8, 4},
		{"2:0;11:3*a6", 20, 5},
		{"1:0;1:0;1:0", 2, 2},
		{"1:0;1:0;1:0", 20, 3},
		{"1:0;1:0;1:1*ab", 2, 1},
		{"1:0;1:0;1:1*ab", 3, 2},
		{"1:0;1:0;1:0;2:0", 20, 11},
		{"4:0;6:0", 20, 5},
		{"4:0;6:0;11:1*b2;11:1*a3", 13, 2},
		{"4:0;6:0;11:1*b2;11:1*a3", 20, 3},
		{"2:0;2:0;3:1*ab;3:1*a2;3:1*b2", 20, 2},
	})
	for _, k := range knownAlgebras() {
		checkLengths(t, []lengthCase{{k.text, impl.MaxAsked, k.length}})
	}
}

// productSearch looks for the longest products of class forms that are no boundaries.
type productSearch struct {
	a          impl.Algebra
	m          int64
	forms      []impl.Form
	degrees    []int64
	boundaries []space
}

func newProductSearch(t *testing.T, a impl.Algebra, m int64) productSearch {
	t.Helper()
	s := productSearch{a: a, m: m}
	for n := range m + 1 {
		s.boundaries = append(s.boundaries, boundariesByWords(a, n))
		for _, f := range classForms(t, a, n) {
			if n > 0 {
				s.forms, s.degrees = append(s.forms, f), append(s.degrees, n)
			}
		}
	}
	return s
}

// longest returns the greatest number of class forms, from number i on, by which a product of a
// degree n may be multiplied further without becoming a boundary.
func (s productSearch) longest(t *testing.T, product impl.Form, n int64, i int) int64 {
	best := int64(0)
	for ; i < len(s.forms); i++ {
		if n+s.degrees[i] > s.m {
			continue
		}
		next := times(t, s.a.Degrees, product, s.forms[i])
		if !s.boundaries[n+s.degrees[i]].has(next) {
			best = max(best, 1+s.longest(t, next, n+s.degrees[i], i))
		}
	}
	return best
}

func TestLengthOfProductsBySearch(t *testing.T) {
	r := rand.New(rand.NewSource(58))
	seen := map[int64]int{}
	for range 400 {
		a := smallAlgebra(t, r, 7, 20)
		m := r.Int63n(8)
		want := newProductSearch(t, a, m).longest(t, formOf(term(1)), 0, 0)
		if got, code := impl.LengthOfProducts(a, m); got != want || code != impl.ErrNone {
			t.Fatalf("LengthOfProducts(%v, %d) = %d, %d, not %d", a, m, got, code, want)
		}
		seen[want]++
	}
	for length := range int64(5) {
		if seen[length] < 5 {
			t.Errorf("only %d times the length %d", seen[length], length)
		}
	}
}

// TestLengthOfManyProducts takes algebras with nearly as many class forms as there may be.
func TestLengthOfManyProducts(t *testing.T) {
	checkLengths(t, []lengthCase{
		{"1:0;1:0;1:0;1:0;1:0;1:0;1:0;2:0", 20, 13},
		{"1:0;1:0;1:0;1:0;1:0;1:0;2:0;12:0", 20, 13},
		{"1:0;1:0;1:0;2:0;2:0;2:0", 13, 8},
		{"4:0;4:0;4:0;4:0;4:0;4:0;4:0;4:0", 14, 3},
		{"1:0;1:0;1:0;1:0;1:0;1:0;1:1*ab+1*cd+1*ef;2:0", 20, 11},
	})
}
