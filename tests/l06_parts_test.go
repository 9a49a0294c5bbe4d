package tests

import (
	"math/rand"
	"testing"

	"loop.example/g01219/impl"
)

// partCase has an algebra, a number, and a part of the algebra.
type partCase struct {
	a    string
	k    int64
	want string
	code int64
}

func TestDropGenerator(t *testing.T) {
	const sphere = "2:0;3:1*a2"
	for _, c := range []partCase{
		{sphere, 0, "3:0", impl.ErrNone},
		{sphere, 1, "", impl.ErrState},
		{"3:1*b2;2:0", 1, "3:0", impl.ErrNone},
		{"3:1*b2;2:0", 0, "", impl.ErrState},
		{"5:0", 0, "", impl.ErrNone},
		{"2:0;4:0;3:1*a2", 0, "4:0;3:0", impl.ErrNone},
		{"2:0;4:0;3:1*a2", 1, "2:0;3:1*a2", impl.ErrNone},
		{"2:0;4:0;3:1*a2", 2, "", impl.ErrState},
		{"1:0;1:0;1:1*ab", 0, "1:0;1:0", impl.ErrNone},
		{"1:0;1:0;1:1*ab", 1, "1:0;1:0", impl.ErrNone},
		{"1:0;1:0;1:1*ab", 2, "", impl.ErrState},
		{"2:0;2:0;3:4*a2+6*ab+3*b2", 0, "2:0;3:3*a2", impl.ErrNone},
		{"2:0;2:0;3:4*a2+6*ab+3*b2", 1, "2:0;3:4*a2", impl.ErrNone},
		{"2:0;2:0;3:4*a2+6*ab", 0, "2:0;3:0", impl.ErrNone},
		{"1:1*b;2:0", 1, "1:0", impl.ErrNone},
		{"1:1*b;2:0", 0, "", impl.ErrState},
		// The generator is in all terms of its own image, or not in all of them.
		{"1:0;2:1*ab", 1, "1:0", impl.ErrNone},
		{"1:0;2:1*ab", 0, "2:0", impl.ErrNone},
		{"1:0;2:1*ab+1*ac;2:1*ac", 1, "", impl.ErrState},
		{"1:0;2:1*ab+1*ac;2:1*ac", 2, "1:0;2:1*ab", impl.ErrNone},
		{"1:0;2:1*ab+1*ac;2:1*ac", 0, "2:0;2:0", impl.ErrNone},
		{"1:1*bc;1:1*ac;1:1*ab", 0, "", impl.ErrState},
		{"12:1*ab;1:0;12:0", 0, "1:0;12:0", impl.ErrNone},
		{"1:0;1:0;1:0;1:0;1:0;1:0;1:1*ab;1:1*ac+1*bc", 2, "1:0;1:0;1:0;1:0;1:0;1:1*ab;1:0", impl.ErrNone},
		{"1:0;1:0;1:0;1:0;1:0;1:0;1:1*ab;1:1*ad+1*bc", 3, "1:0;1:0;1:0;1:0;1:0;1:1*ab;1:1*bc", impl.ErrNone},
	} {
		if got, code := impl.DropGenerator(algebra(t, c.a), c.k); !sameAlgebras(got, algebra(t, c.want)) || code != c.code {
			t.Errorf("DropGenerator(%q, %d) = %v, %d", c.a, c.k, got, code)
		}
	}
}

// TestQuotientsByWords leaves out each generator of random algebras.
func TestQuotientsByWords(t *testing.T) {
	r := rand.New(rand.NewSource(126))
	codes := map[int64]int{}
	changes, own := 0, 0
	for range 1000 {
		a := randomAlgebra(t, r, 8)
		for i := range a.Degrees {
			rest := without(len(a.Degrees), i)
			x := ledTo(a, rest)
			want := int64(impl.ErrNone)
			if len(x.imageByWords(a.Images[i]).Terms) > 0 {
				want = impl.ErrState
			}
			got, code := impl.DropGenerator(a, int64(i))
			codes[code]++
			if code != want || code != impl.ErrNone && !isZeroAlgebra(got) {
				t.Fatalf("DropGenerator(%v, %d) = %v, %d", a, i, got, code)
			}
			if code != impl.ErrNone {
				continue
			}
			if x = x.withImages(rest); !sameAlgebras(got, x.b) {
				t.Fatalf("DropGenerator(%v, %d) = %v", a, i, got)
			}
			checkIsomorphism(t, x)
			if len(a.Images[i].Terms) > 0 {
				own++
			}
			for _, k := range rest {
				if hasGenerator(a.Images[k], i) {
					changes++
				}
			}
		}
	}
	if codes[impl.ErrNone] < 1000 || codes[impl.ErrState] < 500 || changes < 300 || own < 50 {
		t.Errorf("the codes were %v; %d images have the generator, %d its own ones", codes, changes, own)
	}
}

func TestSubAlgebra(t *testing.T) {
	const sphere = "2:0;3:1*a2"
	for _, c := range []partCase{
		{"", 0, "", impl.ErrNone},
		{sphere, 0, "", impl.ErrNone},
		{sphere, 1, "2:0", impl.ErrNone},
		{sphere, 2, sphere, impl.ErrNone},
		{"3:1*b2;2:0", 0, "", impl.ErrNone},
		{"3:1*b2;2:0", 1, "", impl.ErrState},
		{"3:1*b2;2:0", 2, "3:1*b2;2:0", impl.ErrNone},
		{"1:1*b;2:0;5:0", 1, "", impl.ErrState},
		{"1:1*b;2:0;5:0", 2, "1:1*b;2:0", impl.ErrNone},
		{"2:0;4:0;3:1*a2", 2, "2:0;4:0", impl.ErrNone},
		{"1:0;2:1*ac;2:1*ab+1*ac", 1, "1:0", impl.ErrNone},
		{"1:0;2:1*ac;2:1*ab+1*ac", 2, "", impl.ErrState},
		{"1:0;2:1*ac;2:1*ab+1*ac", 3, "1:0;2:1*ac;2:1*ab+1*ac", impl.ErrNone},
		{"1:0;2:1*ab+1*ac;2:1*ac", 2, "", impl.ErrState},
		{"1:0;2:1*ab;2:1*ac", 2, "1:0;2:1*ab", impl.ErrNone},
		{"2:0;3:1*a2+1*h;2:0;2:0;2:0;2:0;2:0;4:0", 7, "", impl.ErrState},
		{"2:0;3:1*a2+1*h;2:0;2:0;2:0;2:0;2:0;4:0", 2, "", impl.ErrState},
		{"2:0;3:1*a2+1*h;2:0;2:0;2:0;2:0;2:0;4:0", 1, "2:0", impl.ErrNone},
		{"1:0;1:0;1:0;1:0;1:0;1:0;1:0;1:1*ab", 7, "1:0;1:0;1:0;1:0;1:0;1:0;1:0", impl.ErrNone},
		{"1:0;1:0;1:0;1:0;1:0;1:0;1:0;1:1*ab", 8, "1:0;1:0;1:0;1:0;1:0;1:0;1:0;1:1*ab", impl.ErrNone},
	} {
		if got, code := impl.SubAlgebra(algebra(t, c.a), c.k); !sameAlgebras(got, algebra(t, c.want)) || code != c.code {
			t.Errorf("SubAlgebra(%q, %d) = %v, %d", c.a, c.k, got, code)
		}
	}
}

// TestSubAlgebrasByWords takes all numbers of first generators of random algebras.
func TestSubAlgebrasByWords(t *testing.T) {
	r := rand.New(rand.NewSource(127))
	codes := map[int64]int{}
	for range 1000 {
		a := randomAlgebra(t, r, 8)
		for k := range len(a.Degrees) + 1 {
			want := int64(impl.ErrNone)
			for i := range k {
				for j := k; j < len(a.Degrees); j++ {
					if hasGenerator(a.Images[i], j) {
						want = impl.ErrState
					}
				}
			}
			part := impl.Algebra{}
			if want == impl.ErrNone {
				part = impl.Algebra{Degrees: a.Degrees[:k], Images: a.Images[:k]}
				checkIsomorphism(t, mapping{part, a, identityForms(part)})
			}
			if got, code := impl.SubAlgebra(a, int64(k)); !sameAlgebras(got, part) || code != want {
				t.Fatalf("SubAlgebra(%v, %d) = %v, %d", a, k, got, code)
			}
			codes[want]++
		}
	}
	if codes[impl.ErrNone] < 1000 || codes[impl.ErrState] < 500 {
		t.Errorf("the codes were %v", codes)
	}
}

// TestPartsWithManyTerms takes an image with as many terms as there may be.
func TestPartsWithManyTerms(t *testing.T) {
	a := algebra(t, evens+";12:0;11:1*g")
	a = withSum(a, 7, firstMonomials(a, 12, 0, 399, 5))
	if got, code := impl.DropGenerator(a, 6); len(got.Images) != 7 || len(got.Images[6].Terms) != 399 || code != impl.ErrNone {
		t.Errorf("DropGenerator of a linear term among 400 = %v, %d", got, code)
	}
	if got, code := impl.DropGenerator(a, 7); !isZeroAlgebra(got) || code != impl.ErrState {
		t.Errorf("DropGenerator of 400 terms = %v, %d", got, code)
	}
	if got, code := impl.SubAlgebra(a, 8); !sameAlgebras(got, a) || code != impl.ErrNone {
		t.Errorf("SubAlgebra with 400 terms = %v, %d", got, code)
	}
}
