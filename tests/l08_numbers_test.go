package tests

import (
	"math/rand"
	"testing"

	"loop.example/g01219/impl"
)

// numbersCase has the text of an algebra, whether it is pure, its Euler number of generators, and its formal dimension.
type numbersCase struct {
	text             string
	pure             bool
	euler, dimension int64
}

// numbersCases has algebras that are not pure for each of the reasons, and for both, and pure ones with all sorts of
// images; Euler numbers and dimensions that are positive, 0 and negative.
func numbersCases() []numbersCase {
	return []numbersCase{
		{"", true, 0, 0},
		{"1:0", true, -1, 1},
		{"11:0", true, -1, 11},
		{"2:0", true, 1, -1},
		{"12:0", true, 1, -11},
		{"2:0;3:0", true, 0, 2},
		{"2:0;3:1*a2", true, 0, 2},
		{"3:1*b2;2:0", true, 0, 2},
		{"2:0;3:1*a2;3:0", true, -1, 5},
		{"2:0;2:0;3:1*ab", true, 1, 1},
		{"2:0;2:0;2:0;3:1*a2;3:1*bc", true, 1, 3},
		{"2:0;2:0;3:1*a2;3:1*ab;3:1*b2", true, -1, 7},
		{"2:0;4:0;7:1*a4+5*a2b+3*b2;11:1*b3", true, 0, 14},
		{"1:1*b;2:0", true, 0, 0},
		{"2:0;2:0;2:0;2:0;12:0;11:1*a2b2cd+1*e;11:2*a6;5:1*abc", true, 2, 12},
		{"12:0;12:0;12:0;12:0;12:0;12:0;12:0;12:0", true, 8, -88},
		{"11:0;11:0;11:0;11:0;11:0;11:0;11:0;11:0", true, -8, 88},
		// Images of odd generators with two odd ones.
		{"1:0;1:0;1:1*ab", false, -3, 3},
		{"3:0;3:0;5:1*ab", false, -3, 11},
		{"1:1*bc;1:1*ac;1:1*ab", false, -3, 3},
		{"1:0;1:0;2:0;3:1*abc+1*c2", false, -2, 4},
		// Images of even generators.
		{"1:0;2:1*ab", false, 0, 0},
		{"2:0;3:0;4:1*ab", false, 1, -1},
		{"4:5*b;5:0", false, 0, 2},
		{"12:1*ab;1:0;12:0", false, 1, -21},
		{"5:0;6:0;10:1*ab", false, 1, -9},
		// Both.
		{"1:0;1:0;1:1*ab;2:1*abc", false, -2, 2},
		{"1:0;2:1*ac;2:1*ab+1*ac", false, 1, -1},
	}
}

func TestNumbersOfAlgebras(t *testing.T) {
	for _, c := range numbersCases() {
		a := algebra(t, c.text)
		if got, code := impl.IsPure(a); got != c.pure || code != impl.ErrNone {
			t.Errorf("IsPure(%q) = %v, %d", c.text, got, code)
		}
		if got, code := impl.EulerOfGenerators(a); got != c.euler || code != impl.ErrNone {
			t.Errorf("EulerOfGenerators(%q) = %d, %d", c.text, got, code)
		}
		if got, code := impl.FormalDimension(a); got != c.dimension || code != impl.ErrNone {
			t.Errorf("FormalDimension(%q) = %d, %d", c.text, got, code)
		}
	}
}

// TestNumbersOfKnownSpaces checks what the chapter's models have in common: but for the Heisenberg manifolds they are
// pure, and the formal dimension of each one is its dimension, the greatest degree with a Betti number other than 0.
func TestNumbersOfKnownSpaces(t *testing.T) {
	for _, s := range madeSpaces() {
		a := s.algebra(t)
		even, odd := int64(0), int64(0)
		for _, n := range a.Degrees {
			even += 1 - n%2
			odd += n % 2
		}
		if got, code := impl.EulerOfGenerators(a); got != even-odd || code != impl.ErrNone {
			t.Errorf("EulerOfGenerators of %s = %d, %d, not %d", s.name, got, code, even-odd)
		}
		if got, code := impl.FormalDimension(a); got != s.dimension || int64(len(s.betti)) != got+1 || code != impl.ErrNone {
			t.Errorf("FormalDimension of %s = %d, %d, not %d", s.name, got, code, s.dimension)
		}
		if got, code := impl.IsPure(a); got == (len(a.Degrees) > 2 && len(a.Images[len(a.Degrees)-1].Terms) > 0) || code != impl.ErrNone {
			t.Errorf("IsPure of %s = %v, %d", s.name, got, code)
		}
		if s.dimension <= impl.MaxTriple {
			if got, code := impl.HasDuality(a, s.dimension); !got || code != impl.ErrNone {
				t.Errorf("%s has no duality of the degree %d: %d", s.name, s.dimension, code)
			}
		}
	}
}

func TestNumbersByWords(t *testing.T) {
	r := rand.New(rand.NewSource(165))
	answers := map[bool]int{}
	for range 3000 {
		a := pureAlgebra(t, r)
		if r.Intn(2) == 0 {
			a = randomAlgebra(t, r, 8)
		}
		euler, dimension := int64(0), int64(0)
		for _, n := range a.Degrees {
			switch n {
			case 1, 3, 5, 7, 9, 11:
				euler, dimension = euler-1, dimension+n
			default:
				euler, dimension = euler+1, dimension+1-n
			}
		}
		if got, code := impl.EulerOfGenerators(a); got != euler || code != impl.ErrNone {
			t.Fatalf("EulerOfGenerators(%v) = %d, %d, not %d", a, got, code, euler)
		}
		if got, code := impl.FormalDimension(a); got != dimension || code != impl.ErrNone {
			t.Fatalf("FormalDimension(%v) = %d, %d, not %d", a, got, code, dimension)
		}
		want := isPureByWords(a)
		if got, code := impl.IsPure(a); got != want || code != impl.ErrNone {
			t.Fatalf("IsPure(%v) = %v, %d", a, got, code)
		}
		if len(a.Degrees) > 2 {
			answers[want]++
		}
	}
	if answers[true] < 300 || answers[false] < 300 {
		t.Errorf("the answers are %v", answers)
	}
}

// TestEulerUpTo has Euler numbers of all signs, up to all degrees from 0 on: behind those that are told, they stay.
func TestEulerUpTo(t *testing.T) {
	for _, c := range []struct {
		text string
		want []int64
	}{
		{"", []int64{1}},
		{"1:0", []int64{1, 0}},
		{"3:0", []int64{1, 1, 1, 0}},
		{"2:0", []int64{1, 1, 2, 2, 3, 3, 4, 4, 5, 5, 6, 6, 7, 7, 8, 8, 9, 9, 10, 10, 11}},
		{"2:0;3:1*a2", []int64{1, 1, 2}},
		{"2:0;5:1*a3", []int64{1, 1, 2, 2, 3}},
		{"2:0;3:1*a2;2:0;3:1*c2", []int64{1, 1, 3, 3, 4}},
		{"1:0;1:0", []int64{1, -1, 0}},
		{"1:0;1:0;1:0;1:0;1:0;1:0;1:0;1:0", []int64{1, -7, 21, -35, 35, -21, 7, -1, 0}},
		{"1:0;1:0;1:1*ab", []int64{1, -1, 1, 0}},
		{"1:0;1:0;1:0;1:0;1:1*ab+1*cd", []int64{1, -3, 2, -3, 1, 0}},
		{"1:1*b;2:0", []int64{1}},
		{"4:5*b;5:0", []int64{1}},
		{"2:0;2:0;3:1*a2;3:1*ab;3:1*b2", []int64{1, 1, 3, 3, 3, 1, 1, 0}},
		{"3:0;3:0;5:0", []int64{1, 1, 1, -1, -1, -2, -1, -1, 1, 1, 1, 0}},
	} {
		a := algebra(t, c.text)
		for m := range int64(impl.MaxAsked + 1) {
			want := c.want[min(int(m), len(c.want)-1)]
			if got, code := impl.EulerUpTo(a, m); got != want || code != impl.ErrNone {
				t.Errorf("EulerUpTo(%q, %d) = %d, %d, not %d", c.text, m, got, code, want)
			}
		}
	}
}

func TestEulerUpToByWords(t *testing.T) {
	r := rand.New(rand.NewSource(166))
	signs := map[bool]int{}
	for range 100 {
		a := smallAlgebra(t, r, 9, 40)
		want := int64(0)
		for m := range int64(10) {
			if m%2 == 0 {
				want += int64(bettiByWords(a, m))
			} else {
				want -= int64(bettiByWords(a, m))
			}
			if got, code := impl.EulerUpTo(a, m); got != want || code != impl.ErrNone {
				t.Fatalf("EulerUpTo(%v, %d) = %d, %d, not %d", a, m, got, code, want)
			}
			if want != 0 {
				signs[want > 0]++
			}
		}
	}
	if signs[true] < 100 || signs[false] < 100 {
		t.Errorf("the signs of Euler numbers are %v", signs)
	}
}

// TestEulerNumbersOfProducts checks that the whole Euler number of a product of known spaces is the product of theirs.
func TestEulerNumbersOfProducts(t *testing.T) {
	some := 0
	for _, x := range madeSpaces() {
		for _, y := range madeSpaces() {
			a, b := x.algebra(t), y.algebra(t)
			product, code := impl.ProductOfAlgebras(a, b)
			if code != impl.ErrNone || x.dimension+y.dimension > impl.MaxAsked {
				continue
			}
			one, _ := impl.EulerUpTo(a, impl.MaxAsked)
			two, _ := impl.EulerUpTo(b, impl.MaxAsked)
			if got, code := impl.EulerUpTo(product, impl.MaxAsked); got != one*two || code != impl.ErrNone {
				t.Errorf("EulerUpTo of %s and %s = %d, %d, not %d", x.name, y.name, got, code, one*two)
			}
			sum, code := impl.FormalDimension(product)
			if sum != x.dimension+y.dimension || code != impl.ErrNone {
				t.Errorf("FormalDimension of %s and %s = %d, %d", x.name, y.name, sum, code)
			}
			if one*two > 1 {
				some++
			}
		}
	}
	if some < 50 {
		t.Errorf("only %d products have an Euler number greater than 1", some)
	}
}
