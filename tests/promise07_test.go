package tests

import (
	"math/rand"
	"slices"
	"testing"

	"loop.example/g01219/impl"
)

// checkClosedTriple checks that the form of a triple product is closed and has the degree that is told.
func checkClosedTriple(t *testing.T, c triad, f impl.Form) {
	t.Helper()
	if closed, code := impl.IsClosed(c.a, f); !closed || code != impl.ErrNone || len(differentialByWords(c.a, f).Terms) > 0 {
		t.Fatalf("the form %v of the triple product of %v is not closed: %v, %d", f, c, closed, code)
	}
	if n, code := impl.DegreeOfForm(c.a.Degrees, f); code != impl.ErrNone || len(f.Terms) > 0 && n != c.degree() {
		t.Fatalf("the form %v of the triple product of %v has the degree %d, code %d", f, c, n, code)
	}
}

func TestPromise7FormsAreClosed(t *testing.T) {
	r := rand.New(rand.NewSource(146))
	var list []triad
	for _, c := range knownTriples() {
		list = append(list, c.triad(t))
	}
	for range 4000 {
		list = append(list, randomTriad(t, r, 12))
	}
	some := 0
	for _, c := range list {
		f, code := impl.TripleForm(c.a, c.x, c.y, c.z)
		if code != impl.ErrNone {
			continue
		}
		checkClosedTriple(t, c, f)
		if len(f.Terms) > 0 {
			some++
		}
	}
	if some < 300 {
		t.Errorf("only %d forms are not 0", some)
	}
}

// withBoundary returns a triad with a boundary added to the form number k, and whether this form stays other than 0 and
// becomes another one.
func withBoundary(r *rand.Rand, c triad, k int) (triad, bool) {
	forms := []*impl.Form{&c.x, &c.y, &c.z}
	f := *forms[k]
	n := degreeOf(c.a, f)
	if n == 0 {
		return c, false
	}
	boundary := differentialByWords(c.a, randomOfDegree(r, c.a, n-1))
	*forms[k] = combination([]int64{1, 1}, []impl.Form{f, boundary})
	return c, len(boundary.Terms) > 0 && len(forms[k].Terms) > 0
}

// TestPromise7Boundaries adds boundaries to one of the three forms. The document promises it of the first one; it holds
// for the others, too.
func TestPromise7Boundaries(t *testing.T) {
	r := rand.New(rand.NewSource(147))
	var same, others, zeros [3]int
	for range 12000 {
		c := randomTriad(t, r, 12)
		k := r.Intn(3)
		changed, ok := withBoundary(r, c, k)
		class, code := impl.TripleClass(c.a, c.x, c.y, c.z)
		if !ok || code != impl.ErrNone {
			continue
		}
		second, code := impl.TripleClass(changed.a, changed.x, changed.y, changed.z)
		if code != impl.ErrNone || !slices.Equal(second, class) {
			t.Fatalf("the class of %v is %v; that of %v is %v, %d", c, class, changed, second, code)
		}
		first, _ := impl.TripleForm(c.a, c.x, c.y, c.z)
		form, _ := impl.TripleForm(changed.a, changed.x, changed.y, changed.z)
		if !isZeroList(class) {
			same[k]++
		}
		if !sameForms(first, form) {
			others[k]++
		}
		// The class of the form 0 has as many numbers as that of any other form of this degree.
		if len(class) > 0 && (len(first.Terms) == 0) != (len(form.Terms) == 0) {
			zeros[k]++
		}
	}
	if slices.Min(same[:]) < 10 || slices.Min(others[:]) < 20 || slices.Min(zeros[:]) < 5 {
		t.Errorf("%v classes are not 0, %v forms become others, and %v of 0 become others", same, others, zeros)
	}
}

// TestPromise7Zero puts a boundary in the place of one of the three forms.
func TestPromise7Zero(t *testing.T) {
	r := rand.New(rand.NewSource(148))
	some, forms := 0, 0
	for range 12000 {
		c := randomTriad(t, r, 11)
		list := []*impl.Form{&c.x, &c.y, &c.z}
		f := list[r.Intn(3)]
		n := 2 + r.Int63n(4)
		if *f = differentialByWords(c.a, randomOfDegree(r, c.a, n-1)); len(f.Terms) == 0 || c.degree() > 12 {
			continue
		}
		class, code := impl.TripleClass(c.a, c.x, c.y, c.z)
		if code != impl.ErrNone && code != impl.ErrNotFound || !isZeroList(class) {
			t.Fatalf("the class of %v is %v, %d", c, class, code)
		}
		if len(class) == 0 {
			continue
		}
		some++
		if form, _ := impl.TripleForm(c.a, c.x, c.y, c.z); len(form.Terms) > 0 {
			forms++
		}
	}
	if some < 100 || forms < 30 {
		t.Errorf("only %d triple products with a boundary, %d of which have a form other than 0", some, forms)
	}
}
