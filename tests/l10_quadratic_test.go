package tests

import (
	"math/rand"
	"slices"
	"testing"

	"loop.example/g01219/impl"
)

func quadraticOf(t *testing.T, a impl.Algebra) impl.Algebra {
	t.Helper()
	b, code := impl.QuadraticAlgebra(a)
	if code != impl.ErrNone {
		t.Fatalf("QuadraticAlgebra(%v): code %d", a, code)
	}
	return b
}

func isCoformal(t *testing.T, a impl.Algebra) bool {
	t.Helper()
	yes, code := impl.IsCoformal(a)
	if code != impl.ErrNone {
		t.Fatalf("IsCoformal(%v): code %d", a, code)
	}
	return yes
}

func TestKnownQuadraticAlgebras(t *testing.T) {
	for _, c := range []struct{ text, want string }{
		{"", ""},
		{"1:0", "1:0"},
		{"12:0", "12:0"},
		{"2:0;3:1*a2", "2:0;3:1*a2"},
		{"2:0;3:7*a2", "2:0;3:7*a2"},
		{"3:1*b2;2:0", "3:1*b2;2:0"},
		{"1:0;1:0;1:1*ab", "1:0;1:0;1:1*ab"},
		{"1:1*bc;1:1*ac;1:1*ab", "1:1*bc;1:1*ac;1:1*ab"},
		{"2:0;5:1*a3", "2:0;5:0"},
		{"2:0;11:3*a6", "2:0;11:0"},
		{"2:0;3:1*a2;5:1*a3", "2:0;3:1*a2;5:0"},
		{"2:0;4:0;5:1*a3+2*ab;7:1*b2;3:0", "2:0;4:0;5:2*ab;7:1*b2;3:0"},
		{"2:0;4:0;5:1*a3+1*ab;5:1*ab", "2:0;4:0;5:1*ab;5:1*ab"},
		{"2:0;4:0;7:1*a4+1*b2", "2:0;4:0;7:1*b2"},
		{"2:0;6:0;7:1*a4+1*ab;11:1*b2", "2:0;6:0;7:1*ab;11:1*b2"},
		{"2:0;4:0;7:1*a4+5*a2b+1*b2", "2:0;4:0;7:1*b2"},
		{"1:0;1:0;1:0;1:0;3:1*abcd;2:1*abc", "1:0;1:0;1:0;1:0;3:0;2:0"},
		{"1:0;2:0;3:1*b2;4:1*ab2", "1:0;2:0;3:1*b2;4:0"},
		{eight, eight},
	} {
		a := algebra(t, c.text)
		if got := quadraticOf(t, a); !sameAlgebras(got, algebra(t, c.want)) {
			t.Errorf("QuadraticAlgebra(%q) = %v", c.text, got)
		}
		if got := isCoformal(t, a); got != (c.text == c.want) {
			t.Errorf("IsCoformal(%q) = %v", c.text, got)
		}
	}
}

// TestQuadraticAlgebras checks that quadratic algebras are coformal minimal algebras with the same degrees, that they are
// their own ones, and that just coformal algebras are so.
func TestQuadraticAlgebras(t *testing.T) {
	r := rand.New(rand.NewSource(219))
	counts := map[bool]int{}
	changed := 0 // of which something quadratic is left
	for range 600 {
		a := pageAlgebra(t, r, 120)
		b := quadraticOf(t, a)
		if !sameAlgebras(b, quadraticByWords(a)) {
			t.Fatalf("QuadraticAlgebra(%v) = %v", a, b)
		}
		if !isAlgebraByWords(b) || !impl.IsAlgebra(b) || !isMinimal(b) || !isCoformal(t, b) || !sameAlgebras(quadraticOf(t, b), b) {
			t.Fatalf("QuadraticAlgebra(%v) = %v is no coformal minimal algebra", a, b)
		}
		yes := isCoformal(t, a)
		if yes != sameAlgebras(a, b) {
			t.Fatalf("IsCoformal(%v) = %v", a, yes)
		}
		counts[yes]++
		if !yes && !sameAlgebras(b, freeOf(a)) {
			changed++
		}
	}
	if min(counts[true], counts[false], changed) < 50 {
		t.Errorf("coformal and other algebras: %v; with both kinds of images: %d", counts, changed)
	}
}

// freeOf returns the algebra with the same degrees whose images are 0.
func freeOf(a impl.Algebra) impl.Algebra {
	return impl.Algebra{Degrees: a.Degrees, Images: make([]impl.Form, len(a.Degrees))}
}

// TestQuadraticAlgebrasBeyondLimits has algebras with so many monomials that nothing can be asked of their degrees.
func TestQuadraticAlgebrasBeyondLimits(t *testing.T) {
	for _, c := range []struct{ text, want string }{
		{"2:0;2:0;2:0;2:0;2:0;2:0;2:0;2:0", "2:0;2:0;2:0;2:0;2:0;2:0;2:0;2:0"},
		{"2:0;2:0;2:0;2:0;2:0;2:0;11:1*a6;11:1*abcdef", "2:0;2:0;2:0;2:0;2:0;2:0;11:0;11:0"},
		{"1:0;1:0;2:0;2:0;2:0;2:0;4:1*ac2+1*bd2;2:1*ac", "1:0;1:0;2:0;2:0;2:0;2:0;4:0;2:1*ac"},
	} {
		a := algebra(t, c.text)
		if got := quadraticOf(t, a); !sameAlgebras(got, algebra(t, c.want)) {
			t.Errorf("QuadraticAlgebra(%q) = %v", c.text, got)
		}
		if isCoformal(t, a) != (c.text == c.want) {
			t.Errorf("IsCoformal(%q) is wrong", c.text)
		}
	}
}

// TestPagesOfQuadraticAlgebras checks that the second pages are the cohomology of the quadratic algebra, word length by word
// length, so that the pages of coformal algebras stop at 0 or 2.
func TestPagesOfQuadraticAlgebras(t *testing.T) {
	r := rand.New(rand.NewSource(220))
	for range 200 {
		a := pageAlgebra(t, r, 60)
		b := quadraticOf(t, a)
		for n := range int64(impl.MaxAsked + 1) {
			if stop := stopOf(t, b, n); stop != 0 && stop != 2 {
				t.Fatalf("PagesStopAt(%v, %d) = %d", b, n, stop)
			}
			row, other := pageRow(t, a, 2, n), pageRow(t, b, 2, n)
			if betti := int64(bettiByWords(b, n)); total(row) != betti || total(other) != betti {
				t.Fatalf("PageRow(%v and %v, 2, %d) = %v and %v, and the Betti number is %d", a, b, n, row, other, betti)
			}
			if !slices.Equal(row, other) {
				t.Fatalf("PageRow(%v and %v, 2, %d) = %v and %v", a, b, n, row, other)
			}
		}
	}
}
