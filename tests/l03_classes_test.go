package tests

import (
	"math/rand"
	"slices"
	"testing"

	"loop.example/g01219/impl"
)

// closedCase has a closed homogeneous form with its class, and with its primitive, which is empty
// if the form is no boundary.
type closedCase struct {
	algebra, f string
	class      []int64
	primitive  string
}

func closedCases() []closedCase {
	return []closedCase{
		{"", "0", nil, "0"},
		{"", "5*1", []int64{5}, ""},
		{"1:0", "5*1", []int64{5}, ""},
		{"1:0", "10006*a", []int64{10006}, ""},
		{"2:0;3:1*a2", "0", nil, "0"},
		{"2:0;3:1*a2", "5*1", []int64{5}, ""},
		{"2:0;3:1*a2", "3*a", []int64{3}, ""},
		{"2:0;3:1*a2", "3*a2", nil, "3*b"},
		{"2:0;3:1*a2", "2*a4", nil, "2*a2b"},
		{"2:0;3:7*a2", "1*a10", nil, "7148*a8b"},
		{"3:1*b2;2:0", "2*b4", nil, "2*ab2"},
		{"2:0", "3*a10", []int64{3}, ""},
		{"1:1*b;2:0", "1*b", nil, "1*a"},
		{"1:1*b;2:0", "4*b2", nil, "4*ab"},
		{"1:10006*b;2:0", "4*b2", nil, "10003*ab"},
		{"1:0;1:0;1:1*ab", "6*ab", []int64{0, 0}, "6*c"},
		{"1:0;1:0;1:1*ab", "6*ab+2*ac+9*bc", []int64{2, 9}, ""},
		{"1:0;1:0;1:1*ab", "3*abc", []int64{3}, ""},
		{"1:1*bc;1:0;1:0", "2*bc", []int64{0, 0}, "2*a"},
		{"2:0;3:1*a2;3:1*a2", "4*b+10003*c", []int64{4}, ""},
		{"2:0;3:1*a2;3:1*a2", "1*a2", nil, "1*c"},
		{"2:0;3:5*a2;3:3*a2", "3*a2", nil, "1*c"},
		{"2:0;3:3*a2;3:5*a2", "3*a2", nil, "2002*c"},
		{"2:0;2:0;3:1*a2+3*ab", "2*a2+5*ab+7*b2", []int64{10006, 7}, ""},
		{"2:0;2:0;3:1*a2+3*ab", "2*a2+6*ab", []int64{0, 0}, "2*c"},
		{"2:0;2:0;3:1*a2", "1*a2+1*b2", []int64{0, 1}, ""},
		{"2:0;2:0;3:2*a2+6*ab;3:1*ab+5*b2", "2*a2+7*ab+5*b2", []int64{0}, "1*c+1*d"},
		{"1:1*c;1:1*d;2:0;2:0", "5*ad+10002*bc", nil, "10002*ab"},
		{"1:1*c;1:1*d;2:0;2:0", "1*cd", nil, "1*bc"},
	}
}

func TestClassesAndPrimitives(t *testing.T) {
	for _, c := range closedCases() {
		a := algebra(t, c.algebra)
		f := parse(t, a.Degrees, c.f)
		if got, code := impl.ClassOf(a, f); !slices.Equal(got, c.class) || code != impl.ErrNone {
			t.Errorf("ClassOf(%q, %q) = %v, %d", c.algebra, c.f, got, code)
		}
		if got, code := impl.IsBoundary(a, f); got != (c.primitive != "") || code != impl.ErrNone {
			t.Errorf("IsBoundary(%q, %q) = %v, %d", c.algebra, c.f, got, code)
		}
		want, wantCode := impl.Form{}, int64(impl.ErrNotFound)
		if c.primitive != "" {
			want, wantCode = parse(t, a.Degrees, c.primitive), impl.ErrNone
		}
		if got, code := impl.PrimitiveOf(a, f); !sameForms(got, want) || code != wantCode {
			t.Errorf("PrimitiveOf(%q, %q) = %v, %d", c.algebra, c.f, got, code)
		}
	}
}

// TestFormsThatAreNotClosed takes homogeneous forms that are not closed, and so no boundaries.
func TestFormsThatAreNotClosed(t *testing.T) {
	cases := []struct{ algebra, f string }{
		{"2:0;3:1*a2", "1*b"},
		{"2:0;3:1*a2", "5*a8b"},
		{"1:1*b;2:0", "1*a"},
		{"1:0;2:1*ab", "1*b"},
		{"1:0;2:1*ab", "1*b10"},
		{"2:0;2:0;3:1*a2;4:0", "1*ac"},
		{"2:0;3:0;4:1*ab", "1*a2+1*c"},
		{"2:0;3:1*a2;4:0;3:1*c", "1*ab+1*ad"},
		{"1:1*c;1:1*d;2:0;2:0", "1*ad+1*bc"},
	}
	for _, c := range cases {
		a := algebra(t, c.algebra)
		f := parse(t, a.Degrees, c.f)
		if got, code := impl.ClassOf(a, f); len(got) != 0 || code != impl.ErrState {
			t.Errorf("ClassOf(%q, %q) = %v, %d", c.algebra, c.f, got, code)
		}
		if got, code := impl.IsBoundary(a, f); got || code != impl.ErrNone {
			t.Errorf("IsBoundary(%q, %q) = %v, %d", c.algebra, c.f, got, code)
		}
		if got, code := impl.PrimitiveOf(a, f); len(got.Terms) != 0 || code != impl.ErrNotFound {
			t.Errorf("PrimitiveOf(%q, %q) = %v, %d", c.algebra, c.f, got, code)
		}
	}
}

// TestClassesOfSums takes sums of class forms and of d of any form, whose classes are known.
func TestClassesOfSums(t *testing.T) {
	r := rand.New(rand.NewSource(54))
	classes, boundaries := 0, 0
	for range 1000 {
		a := smallAlgebra(t, r, 8, 40)
		n := r.Int63n(9)
		forms, images := classForms(t, a, n), imagesOfMonomials(a, n-1)
		numbers := randomNumbers(r, len(forms))
		if r.Intn(2) == 0 {
			clear(numbers)
		}
		boundary := combination(randomNumbers(r, len(images)), images)
		f := combination([]int64{1, 1}, []impl.Form{combination(numbers, forms), boundary})
		if len(f.Terms) == 0 {
			numbers = nil
		}
		if got, code := impl.ClassOf(a, f); !slices.Equal(got, numbers) || code != impl.ErrNone {
			t.Fatalf("ClassOf(%v, %v) = %v, %d, not %v", a, f, got, code, numbers)
		}
		zero := !slices.ContainsFunc(numbers, func(x int64) bool { return x != 0 })
		if got, code := impl.IsBoundary(a, f); got != zero || code != impl.ErrNone {
			t.Fatalf("IsBoundary(%v, %v) = %v, %d", a, f, got, code)
		}
		checkPrimitive(t, a, f, n, zero)
		if !zero && len(boundary.Terms) > 0 {
			classes++
		}
		if zero && len(f.Terms) > 1 {
			boundaries++
		}
	}
	if classes < 50 || boundaries < 50 {
		t.Errorf("only %d classes and %d boundaries", classes, boundaries)
	}
}

// checkPrimitive checks the primitive of a form of the degree n, if there should be one, by what makes
// it the only one.
func checkPrimitive(t *testing.T, a impl.Algebra, f impl.Form, n int64, wanted bool) {
	t.Helper()
	g, code := impl.PrimitiveOf(a, f)
	if !wanted {
		if len(g.Terms) != 0 || code != impl.ErrNotFound {
			t.Fatalf("PrimitiveOf(%v, %v) = %v, %d", a, f, g, code)
		}
		return
	}
	if code != impl.ErrNone || !impl.IsForm(a.Degrees, g) || !sameForms(differentialByWords(a, g), f) {
		t.Fatalf("PrimitiveOf(%v, %v) = %v, %d", a, f, g, code)
	}
	if len(g.Terms) > 0 && !isReducedBy(g, closedForms(t, a, n-1)) {
		t.Fatalf("PrimitiveOf(%v, %v) = %v, which is not reduced by the closed forms", a, f, g)
	}
}

// TestRandomForms takes forms that are mostly not closed.
func TestRandomForms(t *testing.T) {
	r := rand.New(rand.NewSource(55))
	for range 1000 {
		a := smallAlgebra(t, r, 6, 30)
		n := r.Int63n(7)
		f := randomOfDegree(r, a, n)
		closed, below := len(differentialByWords(a, f).Terms) == 0, boundariesByWords(a, n)
		if got, code := impl.IsBoundary(a, f); got != below.has(f) || code != impl.ErrNone {
			t.Fatalf("IsBoundary(%v, %v) = %v, %d", a, f, got, code)
		}
		checkPrimitive(t, a, f, n, below.has(f))
		got, code := impl.ClassOf(a, f)
		if !closed {
			if len(got) != 0 || code != impl.ErrState {
				t.Fatalf("ClassOf(%v, %v) = %v, %d", a, f, got, code)
			}
			continue
		}
		if forms := classForms(t, a, n); code != impl.ErrNone || len(f.Terms) > 0 && (len(got) != len(forms) || !below.has(minus(f, combination(got, forms)))) {
			t.Fatalf("ClassOf(%v, %v) = %v, %d", a, f, got, code)
		}
	}
}
