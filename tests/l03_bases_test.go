package tests

import (
	"math/rand"
	"testing"

	"loop.example/g01219/impl"
)

func TestBases(t *testing.T) {
	cases := []struct {
		algebra                     string
		n                           int64
		closed, boundaries, classes []string
	}{
		{"", 0, []string{"1*1"}, nil, []string{"1*1"}},
		{"", 1, nil, nil, nil},
		{"", 20, nil, nil, nil},
		{"2:0;3:1*a2", 0, []string{"1*1"}, nil, []string{"1*1"}},
		{"2:0;3:1*a2", 1, nil, nil, nil},
		{"2:0;3:1*a2", 2, []string{"1*a"}, nil, []string{"1*a"}},
		{"2:0;3:1*a2", 3, nil, nil, nil},
		{"2:0;3:7*a2", 4, []string{"1*a2"}, []string{"1*a2"}, nil},
		{"2:0;3:1*a2", 20, []string{"1*a10"}, []string{"1*a10"}, nil},
		{"1:1*b;2:0", 2, []string{"1*b"}, []string{"1*b"}, nil},
		{"2:0;3:1*a2;3:1*a2", 3, []string{"1*b+10006*c"}, nil, []string{"1*b+10006*c"}},
		{"2:0;3:5*a2;3:3*a2", 3, []string{"1*b+3334*c"}, nil, []string{"1*b+3334*c"}},
		{"2:0;2:0;3:1*a2+3*ab", 4, []string{"1*a2", "1*ab", "1*b2"}, []string{"1*a2+3*ab"}, []string{"1*ab", "1*b2"}},
		{"2:0;2:0;3:2*a2+6*ab;3:1*ab+5*b2", 4, []string{"1*a2", "1*ab", "1*b2"}, []string{"1*a2+9992*b2", "1*ab+5*b2"}, []string{"1*b2"}},
		{"2:0;2:0;3:1*ab;3:1*a2", 4, []string{"1*a2", "1*ab", "1*b2"}, []string{"1*a2", "1*ab"}, []string{"1*b2"}},
		{"1:1*c;1:1*d;2:0;2:0", 3, []string{"1*ad+10006*bc"}, []string{"1*ad+10006*bc"}, nil},
		{"1:0;1:0;1:1*ab", 1, []string{"1*a", "1*b"}, nil, []string{"1*a", "1*b"}},
		{"1:0;1:0;1:1*ab", 2, []string{"1*ab", "1*ac", "1*bc"}, []string{"1*ab"}, []string{"1*ac", "1*bc"}},
		{"1:1*bc;1:0;1:0", 2, []string{"1*ab", "1*ac", "1*bc"}, []string{"1*bc"}, []string{"1*ab", "1*ac"}},
		{"1:0;1:0;1:0;1:0;1:1*ab+1*cd", 2, []string{"1*ab", "1*ac", "1*ad", "1*bc", "1*bd", "1*cd"}, []string{"1*ab+1*cd"}, []string{"1*ac", "1*ad", "1*bc", "1*bd", "1*cd"}},
		{"1:0;1:0;1:0;1:0;1:1*ab+1*cd", 3, []string{"1*abc", "1*abd", "1*abe+10006*cde", "1*acd", "1*ace", "1*ade", "1*bcd", "1*bce", "1*bde"}, []string{"1*abc", "1*abd", "1*acd", "1*bcd"}, []string{"1*abe+10006*cde", "1*ace", "1*ade", "1*bce", "1*bde"}},
	}
	for _, c := range cases {
		a := algebra(t, c.algebra)
		if got := closedForms(t, a, c.n); !sameFormLists(got, parseAll(t, a.Degrees, c.closed)) {
			t.Errorf("ClosedForms(%q, %d) = %v", c.algebra, c.n, got)
		}
		if got := boundaryForms(t, a, c.n); !sameFormLists(got, parseAll(t, a.Degrees, c.boundaries)) {
			t.Errorf("BoundaryForms(%q, %d) = %v", c.algebra, c.n, got)
		}
		if got := classForms(t, a, c.n); !sameFormLists(got, parseAll(t, a.Degrees, c.classes)) {
			t.Errorf("ClassForms(%q, %d) = %v", c.algebra, c.n, got)
		}
	}
}

// checkBases checks the three bases of a degree against what makes them the only ones: they are
// reduced, and span the spaces that the chapter tells.
func checkBases(t *testing.T, a impl.Algebra, n int64) {
	t.Helper()
	closed, boundaries, classes := closedForms(t, a, n), boundaryForms(t, a, n), classForms(t, a, n)
	images, below := imagesOfMonomials(a, n), boundariesByWords(a, n)
	if !isReduced(closed) || !isReduced(boundaries) || !isReduced(classes) {
		t.Fatalf("%v: in the degree %d, one of %v, %v and %v is not reduced", a, n, closed, boundaries, classes)
	}
	if len(closed) != len(images)-len(spanOf(images)) || len(boundaries) != len(below) || len(classes) != len(closed)-len(boundaries) {
		t.Fatalf("%v: in the degree %d, one of %v, %v and %v spans too much or too little", a, n, closed, boundaries, classes)
	}
	for _, f := range closed {
		checkForm(t, a, f, n)
		if len(differentialByWords(a, f).Terms) > 0 {
			t.Fatalf("%v: the form %v is not closed", a, f)
		}
	}
	for _, f := range boundaries {
		checkForm(t, a, f, n)
		if !below.has(f) {
			t.Fatalf("%v: the form %v is no boundary", a, f)
		}
	}
	for _, f := range classes {
		checkForm(t, a, f, n)
		if len(differentialByWords(a, f).Terms) > 0 || !isReducedBy(f, boundaries) {
			t.Fatalf("%v: the class form %v is not closed, or not reduced by %v", a, f, boundaries)
		}
	}
}

func checkForm(t *testing.T, a impl.Algebra, f impl.Form, n int64) {
	t.Helper()
	if degree, code := impl.DegreeOfForm(a.Degrees, f); degree != n || code != impl.ErrNone {
		t.Fatalf("%v is no form of the degree %d for %v", f, n, a.Degrees)
	}
}

func TestBasesByWords(t *testing.T) {
	r := rand.New(rand.NewSource(53))
	long := 0
	for range 150 {
		a := smallAlgebra(t, r, 8, 40)
		for n := range int64(9) {
			checkBases(t, a, n)
			if len(boundaryForms(t, a, n)) > 3 && len(classForms(t, a, n)) > 3 {
				long++
			}
		}
	}
	if long < 30 {
		t.Errorf("only %d degrees with many boundaries and classes", long)
	}
}

// TestBasesOfGreatDegrees goes up to MaxAsked.
func TestBasesOfGreatDegrees(t *testing.T) {
	for _, k := range knownAlgebras() {
		for n := range int64(impl.MaxAsked + 1) {
			checkBases(t, algebra(t, k.text), n)
		}
	}
}

// TestBasesDependOnTheSpaceAlone changes the images of generators, so that the same boundaries arise
// from other forms. In these degrees no form has an odd generator.
func TestBasesDependOnTheSpaceAlone(t *testing.T) {
	a := algebra(t, "2:0;2:0;2:0;3:1*a2+2*bc;3:1*ab+1*c2;3:1*ac+5*b2")
	b := algebra(t, "2:0;2:0;2:0;3:3*ac+15*b2;3:1*a2+1*ab+2*bc+1*c2;3:1*a2+5*ab+2*bc+5*c2")
	for _, n := range []int64{0, 2, 4} {
		if x, y := boundaryForms(t, a, n), boundaryForms(t, b, n); !sameFormLists(x, y) {
			t.Errorf("boundaries of the degree %d: %v and %v", n, x, y)
		}
		if x, y := classForms(t, a, n), classForms(t, b, n); !sameFormLists(x, y) {
			t.Errorf("class forms of the degree %d: %v and %v", n, x, y)
		}
	}
	if len(boundaryForms(t, a, 4)) != 3 {
		t.Errorf("other boundaries than those of three generators")
	}
}
