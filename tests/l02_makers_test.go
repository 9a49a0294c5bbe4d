package tests

import (
	"math"
	"math/rand"
	"slices"
	"testing"

	"loop.example/g01219/impl"
)

func TestFreeAlgebra(t *testing.T) {
	for _, degrees := range [][]int64{nil, {}, {1}, {12}, {2, 3, 2}, {1, 2, 3, 4, 5, 6, 7, 8}} {
		a, code := impl.FreeAlgebra(degrees)
		if code != impl.ErrNone || !slices.Equal(a.Degrees, degrees) || len(a.Images) != len(degrees) || !impl.IsAlgebra(a) {
			t.Errorf("FreeAlgebra(%v) = %v, %d", degrees, a, code)
		}
		for _, f := range a.Images {
			if len(f.Terms) != 0 {
				t.Errorf("FreeAlgebra(%v) = %v", degrees, a)
			}
		}
	}
	for _, degrees := range badDegrees() {
		if a, code := impl.FreeAlgebra(degrees); !isZeroAlgebra(a) || code != impl.ErrInvalid {
			t.Errorf("FreeAlgebra(%v) = %v, %d", degrees, a, code)
		}
	}
}

func TestProductOfAlgebras(t *testing.T) {
	cases := []struct{ a, b, want string }{
		{"", "", ""},
		{"2:0;3:1*a2", "", "2:0;3:1*a2"},
		{"", "2:0;3:1*a2", "2:0;3:1*a2"},
		{"2:0;3:1*a2", "2:0;5:3*a3", "2:0;3:1*a2;2:0;5:3*c3"},
		{"1:0", "3:1*b2;2:0", "1:0;3:1*c2;2:0"},
		{"1:1*b;2:0", "1:0;1:0;1:1*ab;1:1*ab+7*ac", "1:1*b;2:0;1:0;1:0;1:1*cd;1:1*cd+7*ce"},
		{"1:0;1:0;1:0;1:0;1:0;1:0;1:0", "12:0", "1:0;1:0;1:0;1:0;1:0;1:0;1:0;12:0"},
		{"1:0;1:0;1:0;1:0;1:0;1:0;1:0;1:0", "", "1:0;1:0;1:0;1:0;1:0;1:0;1:0;1:0"},
		{"", "1:1*bh;1:1*ch;1:1*dh;1:1*eh;1:1*fh;1:1*gh;1:0;1:0", "1:1*bh;1:1*ch;1:1*dh;1:1*eh;1:1*fh;1:1*gh;1:0;1:0"},
		{"1:0;1:0;1:0;1:0", "1:0;1:0;1:1*ab;1:1*ac", "1:0;1:0;1:0;1:0;1:0;1:0;1:1*ef;1:1*eg"},
	}
	for _, c := range cases {
		got, code := impl.ProductOfAlgebras(algebra(t, c.a), algebra(t, c.b))
		if !sameAlgebras(got, algebra(t, c.want)) || code != impl.ErrNone {
			t.Errorf("ProductOfAlgebras(%q, %q) = %v, %d", c.a, c.b, got, code)
		}
	}
	limits := [][2]string{
		{"1:0;1:0;1:0;1:0;1:0;1:0;1:0;1:0", "1:0"},
		{"1:0", "1:0;1:0;1:0;1:0;1:0;1:0;1:0;1:0"},
		{"2:0;3:1*a2;2:0;3:1*c2", "2:0;3:1*a2;2:0;3:1*c2;1:0"},
		{"1:0;1:0;1:0;1:0;1:0;1:0;1:0;1:0", "1:0;1:0;1:0;1:0;1:0;1:0;1:0;1:0"},
	}
	for _, c := range limits {
		if got, code := impl.ProductOfAlgebras(algebra(t, c[0]), algebra(t, c[1])); !isZeroAlgebra(got) || code != impl.ErrLimit {
			t.Errorf("ProductOfAlgebras(%q, %q) = %v, %d", c[0], c[1], got, code)
		}
	}
}

// TestProductsOfAlgebrasHaveBoth checks that products have the ranks of both algebras, and that they
// lead forms of each to the same ones.
func TestProductsOfAlgebrasHaveBoth(t *testing.T) {
	r := rand.New(rand.NewSource(40))
	for range 1000 {
		a, b := randomAlgebra(t, r, 4), randomAlgebra(t, r, 4)
		product, code := impl.ProductOfAlgebras(a, b)
		if code != impl.ErrNone || !impl.IsAlgebra(product) {
			t.Fatalf("ProductOfAlgebras(%v, %v) = %v, %d", a, b, product, code)
		}
		first, one := impl.RanksOf(a)
		second, two := impl.RanksOf(b)
		ranks, three := impl.RanksOf(product)
		if one+two == impl.ErrNone && !slices.Equal(ranks, slices.Concat(first, second)) || (one+two == impl.ErrNone) != (three == impl.ErrNone) {
			t.Fatalf("the ranks of the product of %v and %v are %v", a, b, ranks)
		}
		f, g := randomForm(r, a.Degrees, 4, 3), randomForm(r, b.Degrees, 4, 3)
		if left, right := differential(t, product, f), differential(t, a, f); !sameForms(left, right) {
			t.Fatalf("the product of %v and %v leads %v to %v", a, b, f, left)
		}
		if left, right := differential(t, product, behind(g, len(a.Degrees))), behind(differential(t, b, g), len(a.Degrees)); !sameForms(left, right) {
			t.Fatalf("the product of %v and %v leads %v, put behind, to %v", a, b, g, left)
		}
	}
}

// behind returns a form for generators behind count other ones.
func behind(f impl.Form, count int) impl.Form {
	var g impl.Form
	for _, x := range f.Terms {
		g.Terms = append(g.Terms, term(x.Factor, append(make([]byte, count), x.Monomial[:8-count]...)...))
	}
	return g
}

func TestWithGenerator(t *testing.T) {
	const seven, eight = "1:0;1:0;1:0;1:0;1:0;1:0;1:0", "1:0;1:0;1:0;1:0;1:0;1:0;1:0;1:0"
	cases := []struct {
		algebra string
		n       int64
		f       string
		want    string
		code    int64
	}{
		{"", 1, "0", "1:0", impl.ErrNone},
		{"", 12, "0", "12:0", impl.ErrNone},
		{"", 1, "1*1", "", impl.ErrState},
		{"2:0", 3, "5*a2", "2:0;3:5*a2", impl.ErrNone},
		{"2:0", 3, "0", "2:0;3:0", impl.ErrNone},
		{"2:0", 1, "1*a", "2:0;1:1*a", impl.ErrNone},
		{"2:0", 2, "1*a2", "", impl.ErrState},
		{"2:0", 4, "1*a2", "", impl.ErrState},
		{"2:0", 3, "1*a2+1*a", "", impl.ErrState},
		{"2:0", 3, "1*a2+1*1", "", impl.ErrState},
		{"2:0;3:1*a2", 4, "1*ab", "", impl.ErrState},
		{"2:0;3:1*a2", 2, "1*b", "", impl.ErrState},
		{"2:0;3:1*a2", 5, "1*a3", "2:0;3:1*a2;5:1*a3", impl.ErrNone},
		{"2:0;3:1*a2;3:1*a2", 4, "1*ab+10006*ac", "2:0;3:1*a2;3:1*a2;4:1*ab+10006*ac", impl.ErrNone},
		{"2:0;3:1*a2;3:1*a2", 4, "1*ab+1*ac", "", impl.ErrState},
		{"2:0;12:0", 11, "1*a6+1*b", "2:0;12:0;11:1*a6+1*b", impl.ErrNone},
		{"1:0;12:0", 12, "1*ab", "1:0;12:0;12:1*ab", impl.ErrNone},
		{"2:0", 0, "0", "", impl.ErrRange},
		{"2:0", 13, "0", "", impl.ErrRange},
		{"2:0", 13, "1*a7", "", impl.ErrRange},
		{"2:0", -1, "1*1", "", impl.ErrRange},
		{"2:0", math.MaxInt64, "0", "", impl.ErrRange},
		{"2:0", math.MinInt64, "1*a", "", impl.ErrRange},
		{"1:0;2:0;3:1*b2", 0, "1*c", "", impl.ErrRange},
		{seven, 1, "1*ab", seven + ";1:1*ab", impl.ErrNone},
		{eight, 1, "1*ab", "", impl.ErrLimit},
		{eight, 12, "0", "", impl.ErrLimit},
		{eight, 2, "1*ab", "", impl.ErrState},
		{eight, 13, "0", "", impl.ErrRange},
		{eight, 13, "1*ab", "", impl.ErrRange},
		{"2:0;3:1*a2;1:0;1:0;1:0;1:0;1:0;1:0", 4, "1*ab", "", impl.ErrState},
	}
	for _, c := range cases {
		a := algebra(t, c.algebra)
		got, code := impl.WithGenerator(a, c.n, parse(t, a.Degrees, c.f))
		if !sameAlgebras(got, algebra(t, c.want)) || code != c.code {
			t.Errorf("WithGenerator(%q, %d, %q) = %v, %d", c.algebra, c.n, c.f, got, code)
		}
	}
}

// TestWithGeneratorOfManyTerms takes an image with all 210 monomials of a degree.
func TestWithGeneratorOfManyTerms(t *testing.T) {
	a := algebra(t, "2:0;2:0;2:0;2:0;2:0;2:0;2:0")
	all, code := impl.MonomialsOf(a.Degrees, 8)
	if code != impl.ErrNone || len(all) != 210 {
		t.Fatalf("%d monomials, code %d", len(all), code)
	}
	var f impl.Form
	for _, m := range all {
		f.Terms = append(f.Terms, impl.Term{Monomial: m, Factor: 3})
	}
	got, code := impl.WithGenerator(a, 7, f)
	if code != impl.ErrNone || !sameForms(got.Images[7], f) || got.Degrees[7] != 7 || !impl.IsAlgebra(got) {
		t.Errorf("WithGenerator with %d terms = %v, %d", len(all), got, code)
	}
	if got, code := impl.WithGenerator(a, 8, f); !isZeroAlgebra(got) || code != impl.ErrState {
		t.Errorf("WithGenerator of another degree = %v, %d", got, code)
	}
}

// TestWithGeneratorStepByStep builds algebras up from none, and compares their parts.
func TestWithGeneratorStepByStep(t *testing.T) {
	r := rand.New(rand.NewSource(41))
	for range 500 {
		a := impl.Algebra{}
		for range impl.MaxGenerators {
			n := 1 + r.Int63n(6)
			f := randomClosed(r, a, n+1)
			got, code := impl.WithGenerator(a, n, f)
			want := impl.Algebra{Degrees: append(slices.Clone(a.Degrees), n), Images: append(slices.Clone(a.Images), f)}
			if !sameAlgebras(got, want) || code != impl.ErrNone || !impl.IsAlgebra(got) {
				t.Fatalf("WithGenerator(%v, %d, %v) = %v, %d", a, n, f, got, code)
			}
			a = got
		}
		if ranks, code := impl.RanksOf(a); code != impl.ErrNone || len(ranks) != impl.MaxGenerators {
			t.Fatalf("RanksOf(%v) = %v, %d", a, ranks, code)
		}
	}
}
