package tests

import (
	"math/rand"
	"slices"
	"testing"

	"loop.example/g01219/impl"
)

// dualityCase has the text of an algebra, and the degrees in 0..MaxTriple of which it has duality.
type dualityCase struct {
	text    string
	degrees []int64
}

// dualityCases has spheres, projective spaces, tori, products and others. For the projective plane times the circle, the
// Betti numbers of the degrees 2 and 4 are as duality needs them, but not the products.
func dualityCases() []dualityCase {
	return []dualityCase{
		{"", []int64{0}},
		{"1:0", []int64{0, 1}},
		{"11:0", []int64{0, 11}},
		{"2:0", []int64{0, 2, 4, 6, 8, 10, 12, 14}},
		{"2:0;3:1*a2", []int64{0, 2}},
		{"3:7*b2;2:0", []int64{0, 2}},
		{"2:0;5:1*a3", []int64{0, 2, 4}},
		{"2:0;11:3*a6", []int64{0, 2, 4, 6, 8, 10}},
		{"4:0;11:1*a3", []int64{0, 4, 8}},
		{"1:0;1:0;1:0", []int64{0, 3}},
		{"1:0;1:0;1:0;1:0;1:0;1:0;1:0;1:0", []int64{0, 8}},
		{"2:0;3:1*a2;2:0;3:1*c2", []int64{0, 4}},
		{"2:0;3:1*a2;3:0", []int64{0, 2, 5}},
		{"3:0;3:0;5:0", []int64{0, 11}},
		{"2:0;5:1*a3;1:0", []int64{0, 1, 3, 5}},
		{heisenberg, []int64{0, 3}},
		{"1:0;1:0;1:0;1:0;1:1*ab+1*cd", []int64{0, 5}},
		{"1:1*b;2:0", []int64{0}},
		{"1:0;2:1*ab", []int64{0, 1}},
		{"1:1*bc;1:1*ac;1:1*ab", []int64{0, 3}},
		{twoSquares, []int64{0, 7}},
		{"2:0;3:0", []int64{0, 2}},
		{"2:0;2:0", []int64{0}},
		{"7:0;7:0", []int64{0, 14}},
		{"7:0;8:0", []int64{0, 7}},
	}
}

func TestHasDuality(t *testing.T) {
	for _, c := range dualityCases() {
		a := algebra(t, c.text)
		for m := range int64(impl.MaxTriple + 1) {
			want := slices.Contains(c.degrees, m)
			if got, code := impl.HasDuality(a, m); got != want || code != impl.ErrNone {
				t.Errorf("HasDuality(%q, %d) = %v, %d", c.text, m, got, code)
			}
		}
	}
}

// rankOfTable returns the rank of a table of numbers. Each row stands for a form.
func rankOfTable(table [][]int64) int {
	s := space{}
	for _, numbers := range table {
		sum := map[impl.Monomial]int64{}
		for j, x := range numbers {
			sum[impl.Monomial{byte(j)}] = x
		}
		s.add(formOfSum(sum))
	}
	return len(s)
}

// pairing returns the first numbers of the classes of the products of class forms of the degrees n and m, which
// must have the Betti number 1.
func pairing(t *testing.T, a impl.Algebra, n, m int64) [][]int64 {
	t.Helper()
	top := classForms(t, a, n+m)
	below := boundariesByWords(a, n+m)
	table := make([][]int64, len(classForms(t, a, n)))
	for i, f := range classForms(t, a, n) {
		for _, g := range classForms(t, a, m) {
			product, number := productByWords(a.Degrees, f, g), int64(0)
			// As there is a single class form, what is left of both begins with the same monomial, or is 0.
			if rest := below.rest(product); len(rest.Terms) > 0 {
				number = rest.Terms[0].Factor * inverse(below.rest(top[0]).Terms[0].Factor) % impl.FieldPrime
			}
			if !below.has(minus(product, combination([]int64{number}, top))) {
				t.Fatalf("%v: the product of %v and %v is not %d times %v", a, f, g, number, top)
			}
			table[i] = append(table[i], number)
		}
	}
	return table
}

func hasDualityByWords(t *testing.T, a impl.Algebra, m int64) bool {
	t.Helper()
	if bettiByWords(a, m) != 1 {
		return false
	}
	for n := range m + 1 {
		betti := bettiByWords(a, n)
		if betti != bettiByWords(a, m-n) || rankOfTable(pairing(t, a, n, m-n)) != betti {
			return false
		}
	}
	return true
}

// hasBettiOfDuality reports whether the Betti numbers of an algebra are as duality of the degree m needs them.
func hasBettiOfDuality(a impl.Algebra, m int64) bool {
	for n := range m + 1 {
		if bettiByWords(a, n) != bettiByWords(a, m-n) {
			return false
		}
	}
	return bettiByWords(a, m) == 1
}

// dualAlgebra returns an algebra that has duality of some degree in many cases: a product of known spaces, told by
// other generators, with at most most monomials of each of the degrees 0 to top + 1.
func dualAlgebra(t *testing.T, r *rand.Rand, top int64, most int) impl.Algebra {
	t.Helper()
	texts := []string{"1:0", "3:0", "2:0;3:1*a2", "2:0;5:1*a3", "4:0;7:1*a2", "1:1*b;2:0", "2:0;2:0;3:1*a2;3:1*ab+1*b2", heisenberg, twoSquares, "1:0;2:1*ab"}
	for {
		a := impl.Algebra{}
		for range 1 + r.Intn(4) {
			if b, code := impl.ProductOfAlgebras(a, algebra(t, texts[r.Intn(len(texts))])); code == impl.ErrNone {
				a = b
			}
		}
		if mostMonomials(a, top+1) > most {
			continue
		}
		a = shuffled(r, a)
		for range r.Intn(6) {
			i := r.Intn(len(a.Degrees))
			a = changedByWords(a, i, randomChange(r, a, i)).b
		}
		return a
	}
}

func TestHasDualityByWords(t *testing.T) {
	r := rand.New(rand.NewSource(142))
	good, equal, bad := 0, 0, 0
	for range 300 {
		a := dualAlgebra(t, r, 9, 40)
		if r.Intn(3) == 0 {
			a = smallAlgebra(t, r, 9, 40)
		}
		for m := range int64(10) {
			want := hasDualityByWords(t, a, m)
			if got, code := impl.HasDuality(a, m); got != want || code != impl.ErrNone {
				t.Fatalf("HasDuality(%v, %d) = %v, %d", a, m, got, code)
			}
			switch {
			case want && m > 2:
				good++
			case !want && hasBettiOfDuality(a, m):
				equal++
			case !want:
				bad++
			}
		}
	}
	if good < 100 || equal < 20 || bad < 100 {
		t.Errorf("%d algebras have duality, %d only the Betti numbers of it, and %d neither", good, equal, bad)
	}
}
