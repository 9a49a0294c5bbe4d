package tests

import (
	"math/rand"
	"testing"

	"loop.example/g01219/impl"
)

func filtrationOf(t *testing.T, a impl.Algebra, f impl.Form) int64 {
	t.Helper()
	p, code := impl.FiltrationOf(a, f)
	if code != impl.ErrNone {
		t.Fatalf("FiltrationOf(%v, %v): code %d", a, f, code)
	}
	return p
}

func TestKnownFiltrations(t *testing.T) {
	const four, both, ties = "2:0;4:0;7:1*a4+1*b2", "2:0;4:0;5:1*a3+2*ab", "2:0;2:0;4:0;5:1*a3+1*ac;5:1*b3+1*bc"
	for _, c := range []struct {
		text, f string
		want    int64
	}{
		{"", "1*1", 0},
		{"2:0;3:1*a2", "1*1", 0},
		{"2:0;3:1*a2", "5000*1", 0},
		{"2:0;3:1*a2", "1*a", 1},
		{"2:0;3:1*a2", "7*a", 1},
		{"3:0;3:0;5:0", "1*ab", 2},
		{"12:0", "1*a", 1},
		{"12:1*ab;1:0;12:0", "1*b", 1},
		{"2:0", "1*a10", 10},
		{"2:0;4:0", "1*a2", 2},
		{"2:0;4:0", "1*a2+1*b", 1},
		{"1:0;1:0;1:1*ab", "1*abc", 3},
		{"1:0;1:0;1:1*ab", "3*ab+2*ac", 2},
		{"1:0;1:0;1:0;1:0;1:0;1:0;1:0;1:0", "1*abcdefgh", 8},
		{"2:0;3:1*a2;5:1*a3", "10006*ab+1*c", 1},
		// The boundary 1*a4+1*b2, and what is left without it.
		{four, "1*b2", 4},
		{four, "1*a4", 4},
		{four, "1*a4+2*b2", 4},
		{four, "1*a2b", 3},
		{four, "1*a2b+9*b2", 3},
		{four, "1*a4+1*a2b+1*b2", 3},
		{four, "1*a3", 3},
		{both, "1*ab", 3},
		{both, "1*a3+1*ab", 3},
		{both, "1*b", 1},
		{both, "1*a2+1*b", 1},
		{both, "1*a2", 2},
		{both, "1*a2b", 4},
		{both, "1*b2", 2},
		{both, "1*a2b+1*b2", 2},
		{ties, "1*ac", 3},
		{ties, "1*ac+1*bc", 3},
		{ties, "1*ab2+1*bc", 3},
		{"1:0;1:0;1:0;2:0;2:1*abc+1*ad", "1*ad", 3},
		{"1:0;1:0;1:0;2:0;2:1*abc+1*ad", "1*ad+1*bd", 2},
		{"2:0;3:0;9:1*a5;11:1*a6", "1*a4b", 5},
	} {
		a := algebra(t, c.text)
		if got := filtrationOf(t, a, parse(t, a.Degrees, c.f)); got != c.want {
			t.Errorf("FiltrationOf(%q, %q) = %d, not %d", c.text, c.f, got, c.want)
		}
	}
}

// randomBoundary returns a boundary of a degree n, mostly with few terms.
func randomBoundary(r *rand.Rand, a impl.Algebra, n int64) impl.Form {
	if r.Intn(3) == 0 {
		return differentialByWords(a, randomOfDegree(r, a, n-1))
	}
	return differentialByWords(a, fewOfDegree(r, a, n-1, 3))
}

// closedOther returns a closed form of a degree that is no boundary, of few class forms and a boundary, and false if
// there are no class forms.
func closedOther(t *testing.T, r *rand.Rand, a impl.Algebra, n int64) (impl.Form, bool) {
	t.Helper()
	forms := classForms(t, a, n)
	if len(forms) == 0 {
		return impl.Form{}, false
	}
	list := []impl.Form{forms[r.Intn(len(forms))], forms[r.Intn(len(forms))], randomBoundary(r, a, n)}
	f := combination([]int64{1 + r.Int63n(impl.FieldPrime-1), r.Int63n(3), r.Int63n(3)}, list)
	return f, !boundariesByWords(a, n).has(f)
}

// TestFiltrationsByWords has closed forms of which a boundary can be taken off so that longer words are left, and others.
// The dimension of the last page at a filtration cannot be 0.
func TestFiltrationsByWords(t *testing.T) {
	r := rand.New(rand.NewSource(221))
	longer, same := 0, 0
	for range 400 {
		a := pageAlgebra(t, r, 40)
		x := filteredOf(a)
		for n := range int64(impl.MaxAsked + 1) {
			f, ok := closedOther(t, r, a, n)
			if !ok {
				continue
			}
			got := filtrationOf(t, a, f)
			if want := x.filtration(f); got != want {
				t.Fatalf("FiltrationOf(%v, %v) = %d, not %d", a, f, got, want)
			}
			if pageDimension(t, a, stopOf(t, a, n), got, n) == 0 {
				t.Fatalf("FiltrationOf(%v, %v) = %d, where nothing is left", a, f, got)
			}
			length, _ := impl.WordLengthOf(a, f)
			switch {
			case got > length:
				longer++
			case got == length:
				same++
			default:
				t.Fatalf("FiltrationOf(%v, %v) = %d", a, f, got)
			}
		}
	}
	if min(longer, same) < 100 {
		t.Errorf("%d forms with longer words behind a boundary, and %d others", longer, same)
	}
}

// TestFiltrationsOfClasses checks that boundaries and factors do not change a filtration.
func TestFiltrationsOfClasses(t *testing.T) {
	r := rand.New(rand.NewSource(222))
	for range 400 {
		a := pageAlgebra(t, r, 40)
		for range 4 {
			n := r.Int63n(impl.MaxAsked + 1)
			f, ok := closedOther(t, r, a, n)
			if !ok {
				continue
			}
			g := combination([]int64{1 + r.Int63n(impl.FieldPrime-1), 1}, []impl.Form{f, randomBoundary(r, a, n)})
			if p, q := filtrationOf(t, a, f), filtrationOf(t, a, g); p != q {
				t.Fatalf("FiltrationOf(%v, %v or %v) = %d or %d", a, f, g, p, q)
			}
		}
	}
}

// TestFiltrationsAndPages checks that the numbers of independent classes with filtrations of at least p are told by the pages
// at which the degree stops.
func TestFiltrationsAndPages(t *testing.T) {
	r := rand.New(rand.NewSource(223))
	for range 200 {
		a := pageAlgebra(t, r, 40)
		n := r.Int63n(impl.MaxAsked + 1)
		row := pageRow(t, a, stopOf(t, a, n), n)
		x := filteredOf(a)
		for p := range row {
			s := boundariesByWords(a, n)
			classes := 0
			for _, f := range x.z(impl.MaxPage+1, int64(p), n) { // the closed forms in F(p, n)
				if s.add(f) {
					classes++
					if got := filtrationOf(t, a, f); got < int64(p) {
						t.Fatalf("FiltrationOf(%v, %v) = %d, not at least %d", a, f, got, p)
					}
				}
			}
			if int64(classes) != total(row[p:]) {
				t.Fatalf("%v has %d classes of a filtration of at least %d in the degree %d, and the page %v", a, classes, p, n, row)
			}
		}
	}
}
