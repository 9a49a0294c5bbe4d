package tests

import (
	"math"
	"math/rand"
	"testing"

	"loop.example/g01219/impl"
)

// callsOfModels has the functions that make a model.
func callsOfModels() []degreeCall {
	return []degreeCall{
		{"MinimalModel", func(a impl.Algebra, n int64) (bool, int64) {
			b, images, code := impl.MinimalModel(a, n)
			return isZeroAlgebra(b) && len(images) == 0, code
		}},
		{"HomotopyRanks", func(a impl.Algebra, n int64) (bool, int64) {
			ranks, code := impl.HomotopyRanks(a, n)
			return len(ranks) == 0, code
		}},
		{"HomotopyEuler", func(a impl.Algebra, n int64) (bool, int64) {
			euler, code := impl.HomotopyEuler(a, n)
			return euler == 0, code
		}},
	}
}

// callsOfAssignments has the functions that take an assignment.
func callsOfAssignments() []mapCall {
	return []mapCall{
		{"IsChainMap", func(x mapping, _ int64) (bool, int64) {
			yes, code := impl.IsChainMap(x.a, x.b, x.m)
			return !yes, code
		}},
		{"ImageOfForm", func(x mapping, _ int64) (bool, int64) {
			f, code := impl.ImageOfForm(x.a, x.b, x.m, formOf(term(1)))
			return len(f.Terms) == 0, code
		}},
		callOfIsModel(),
	}
}

func callOfIsModel() mapCall {
	return mapCall{"IsModel", func(x mapping, n int64) (bool, int64) {
		yes, code := impl.IsModel(x.a, x.b, x.m, n)
		return !yes, code
	}}
}

// checkModelCode checks the code of all functions that make a model.
func checkModelCode(t *testing.T, a impl.Algebra, n int64, want int64) {
	t.Helper()
	for _, c := range callsOfModels() {
		if zero, code := c.call(a, n); code != want || code != impl.ErrNone && !zero {
			t.Errorf("%s(%v, %d): code %d, not %d; the zero value: %v", c.name, a, n, code, want, zero)
		}
	}
}

func checkIsModelCode(t *testing.T, x mapping, n int64, want int64) {
	t.Helper()
	if yes, code := impl.IsModel(x.a, x.b, x.m, n); code != want || code != impl.ErrNone && yes {
		t.Errorf("IsModel(%v, %d) = %v, %d, not %d", x, n, yes, code, want)
	}
}

func TestInvalidModels(t *testing.T) {
	for _, bad := range badAlgebras(t) {
		for _, n := range []int64{2, 10, 1, 11, math.MinInt64, math.MaxInt64} {
			checkModelCode(t, bad, n, impl.ErrInvalid)
		}
	}
}

func TestInvalidAssignments(t *testing.T) {
	list := append(mappingsOf(t, noAssignments()), mappingsOfBadParts(t)...)
	for _, x := range list {
		for _, c := range callsOfAssignments() {
			for _, n := range []int64{2, 10, 1, 11, math.MinInt64, math.MaxInt64} {
				if zero, code := c.call(x, n); !zero || code != impl.ErrInvalid {
					t.Errorf("%s(%v, %d): code %d", c.name, x, n, code)
				}
			}
		}
	}
	x := fourHundred(t)
	y := withOneMore(t, x)
	y.m = y.m[:4]
	for _, c := range callsOfAssignments() {
		if zero, code := c.call(y, 10); !zero || code != impl.ErrInvalid {
			t.Errorf("%s of a list that is too short, with 401 terms: code %d", c.name, code)
		}
	}
}

func TestInvalidFormsOfAssignments(t *testing.T) {
	a, evens := algebra(t, "1:0;2:0"), algebra(t, "2:0;2:0")
	for _, f := range badForms() {
		if got, code := impl.ImageOfForm(a, a, identityForms(a), f); len(got.Terms) != 0 || code != impl.ErrInvalid {
			t.Errorf("ImageOfForm(%v) = %v, %d", f, got, code)
		}
		if got, code := impl.ImageOfForm(a, impl.Algebra{}, make([]impl.Form, 2), f); len(got.Terms) != 0 || code != impl.ErrInvalid {
			t.Errorf("ImageOfForm(%v) = %v, %d", f, got, code)
		}
	}
	if got, code := impl.ImageOfForm(evens, evens, identityForms(evens), grid(401, 1)); len(got.Terms) != 0 || code != impl.ErrInvalid {
		t.Errorf("ImageOfForm of 401 terms = %v, %d", got, code)
	}
	// A form of a that is none of b.
	if got, code := impl.ImageOfForm(algebra(t, "2:0"), evens, []impl.Form{{}}, formOf(term(1, 0, 1))); len(got.Terms) != 0 || code != impl.ErrInvalid {
		t.Errorf("ImageOfForm of a form of a = %v, %d", got, code)
	}
}

// TestRangesOfModels has algebras that are simple in degree 1, some that are not, and some beyond the limits.
func TestRangesOfModels(t *testing.T) {
	for _, text := range []string{"", "1:0", "2:0;3:1*a2", "1:0;1:0;1:1*ab", eight, lie(1, 4)} {
		a := algebra(t, text)
		for _, n := range []int64{1, 0, -1, 11, 12, 20, math.MinInt64, math.MaxInt64} {
			checkModelCode(t, a, n, impl.ErrRange)
			checkIsModelCode(t, mapping{a, a, identityForms(a)}, n, impl.ErrRange)
			checkIsModelCode(t, mapping{a, impl.Algebra{}, make([]impl.Form, len(a.Degrees))}, n, impl.ErrRange)
		}
	}
	for _, x := range mappingsOf(t, otherAssignments()) {
		checkIsModelCode(t, x, 1, impl.ErrRange)
		checkIsModelCode(t, x, 11, impl.ErrRange)
	}
	for _, text := range []string{"", "2:0;3:1*a2", "10:0;10:0"} {
		a := algebra(t, text)
		for _, n := range []int64{2, 10} {
			checkModelCode(t, a, n, impl.ErrNone)
			checkIsModelCode(t, mapping{a, a, identityForms(a)}, n, impl.ErrNone)
		}
	}
}

// TestAlgebrasThatAreNotSimple has a Betti number other than 0 of the degree 1, in some beyond the limits.
func TestAlgebrasThatAreNotSimple(t *testing.T) {
	for _, text := range []string{
		"1:0",
		"2:0;1:0",
		"1:0;1:0;1:1*ab",
		"1:0;2:1*ab",
		"1:1*b;2:0;1:1*b",
		"1:0;1:0;1:0;1:0;1:0;1:0;1:0;1:0",
		"2:0;2:0;2:0;2:0;2:0;2:0;2:0;1:0",
	} {
		a := algebra(t, text)
		for n := int64(2); n <= impl.MaxModel; n++ {
			checkModelCode(t, a, n, impl.ErrState)
		}
		// Models may be asked for, where they are known.
		checkIsModelCode(t, mapping{a, a, identityForms(a)}, 2, impl.ErrNone)
	}
	for _, text := range []string{"", "1:1*b;2:0", "1:1*bc;1:1*ac;1:1*ab", lie(1, 1), "1:1*c;1:1*d;2:0;2:0"} {
		checkModelCode(t, algebra(t, text), 2, impl.ErrNone)
	}
}

// TestLimitOfGenerators meets MaxGenerators on the way, and exceeds it by one or more.
func TestLimitOfGenerators(t *testing.T) {
	for _, c := range []struct {
		a    string
		n    int64
		want int64
	}{
		{lie(1, 1), 2, impl.ErrNone},
		{lie(1, 1), 3, impl.ErrLimit},
		{lie(1, 2), 6, impl.ErrNone},
		{lie(1, 2), 7, impl.ErrLimit},
		{lie(1, 4), 9, impl.ErrNone},
		{lie(1, 4), 10, impl.ErrLimit},
		{"3:0;3:0;3:0;3:0;3:0;3:0;3:0;3:0", 3, impl.ErrNone},
		{"3:0;3:0;3:0;3:0;3:0;3:0;3:0;3:0", 10, impl.ErrNone},
		{"2:0;2:0;3:0;4:0;5:0;6:0;7:0;8:0", 9, impl.ErrNone},
	} {
		checkModelCode(t, algebra(t, c.a), c.n, c.want)
	}
	if x := minimalModel(t, algebra(t, lie(1, 4)), 9); len(x.a.Degrees) != impl.MaxGenerators {
		t.Errorf("the model has %d generators", len(x.a.Degrees))
	}
}

// monomialsUpTo returns the numbers of the monomials of the degrees 0 to n.
func monomialsUpTo(a impl.Algebra, n int64) []int {
	var counts []int
	for i := range n + 1 {
		counts = append(counts, len(allMonomials(a.Degrees, i)))
	}
	return counts
}

// sideCases has algebras with 120 monomials of one degree at the most, or with 121 of one degree and less of
// all lesser ones: with free generators, which their models have, too, and with pairs that cancel, which
// leave the model small.
func sideCases() []struct {
	text   string
	degree int64
	most   int
} {
	return []struct {
		text   string
		degree int64
		most   int
	}{
		{eight, 6, 120},
		{"2:0;2:0;2:0;2:0;4:0;4:0;6:0", 10, 120},
		{"2:0;2:0;2:0;2:0;3:0;3:0;7:0;7:0", 12, 120},
		{"1:1*b;2:0;1:1*d;2:0;1:1*f;2:0;1:1*h;2:0", 7, 120},
		{"2:0;2:0;2:0;2:0;2:0;4:0;4:0;4:0", 8, 121},
		{"2:0;2:0;2:0;2:0;3:0;3:0;3:0;6:0", 11, 121},
		{"1:1*b;2:0;1:1*d;2:0;1:1*f;2:0;3:0;3:0", 9, 121},
		{"1:1*b;2:0;1:1*d;2:0;1:1*f;2:0;8:0;8:0", 12, 121},
		{"2:1*b;3:0;2:1*d;3:0;2:0;2:0;3:0;6:0", 11, 121},
	}
}

// TestLimitsOfSides meets MaxSide in a degree, and exceeds it by one: the degrees 0 to N + 2 count.
func TestLimitsOfSides(t *testing.T) {
	for _, c := range sideCases() {
		a := algebra(t, c.text)
		counts := monomialsUpTo(a, c.degree)
		if counts[c.degree] != c.most || c.most > impl.MaxSide && mostMonomials(a, c.degree-1) > impl.MaxSide {
			t.Fatalf("%q has %v monomials", c.text, counts)
		}
		zeros := make([]impl.Form, len(a.Degrees))
		for n := int64(2); n <= impl.MaxModel && n+2 <= c.degree; n++ {
			want := int64(impl.ErrNone)
			if n+2 == c.degree && c.most > impl.MaxSide {
				want = impl.ErrLimit
			}
			checkModelCode(t, a, n, want)
			checkIsModelCode(t, mapping{a, a, identityForms(a)}, n, want)
			checkIsModelCode(t, mapping{a, impl.Algebra{}, zeros}, n, want)
			checkIsModelCode(t, mapping{impl.Algebra{}, a, nil}, n, want)
		}
	}
}

// TestSidesOfOtherDegrees exceeds MaxSide in degrees that are less or more than N + 2.
func TestSidesOfOtherDegrees(t *testing.T) {
	a := algebra(t, "2:0;2:0;2:0;2:0;2:0;4:0;4:0;4:0")
	for n, want := range map[int64]int64{5: impl.ErrNone, 6: impl.ErrLimit, 7: impl.ErrLimit, 9: impl.ErrLimit, 10: impl.ErrLimit} {
		checkModelCode(t, a, n, want)
		checkIsModelCode(t, mapping{impl.Algebra{}, a, nil}, n, want)
	}
}

// TestChainMapsThatAreNoneBeyondSides has an assignment that is no chain map, with many monomials on one of
// both sides.
func TestChainMapsThatAreNoneBeyondSides(t *testing.T) {
	b, a := algebra(t, "2:0;3:1*a2"), algebra(t, eight)
	x := mapping{b, a, []impl.Form{generator(0, 1), {}}}
	checkIsModelCode(t, x, 4, impl.ErrNone)
	checkIsModelCode(t, x, 5, impl.ErrNone)
	checkIsModelCode(t, x, 6, impl.ErrLimit)
	y := mapping{a, b, make([]impl.Form, 8)}
	checkIsModelCode(t, y, 5, impl.ErrNone)
	checkIsModelCode(t, y, 6, impl.ErrLimit)
	for _, z := range []mapping{x, y} {
		if got, code := impl.IsChainMap(z.a, z.b, z.m); got == (z.a.Degrees[1] == 3) || code != impl.ErrNone {
			t.Errorf("IsChainMap(%v) = %v, %d", z, got, code)
		}
	}
}

// TestAnyModel calls everything with what is often invalid: nothing panics, and results beside errors are zero
// values.
func TestAnyModel(t *testing.T) {
	r := rand.New(rand.NewSource(107))
	codes := map[int64]int{}
	for range 2000 {
		a := anyAlgebra(t, r)
		if r.Intn(10) == 0 {
			a = algebra(t, []string{eight, lie(1, 4)}[r.Intn(2)])
		}
		x := anyMapping(t, r, a, anyAlgebra(t, r))
		n := []int64{r.Int63n(11) + 1, math.MinInt64, math.MaxInt64}[min(2, r.Intn(10)/8)]
		for _, c := range callsOfModels() {
			zero, code := c.call(x.a, n)
			known := code == impl.ErrNone || code == impl.ErrInvalid || code == impl.ErrRange || code == impl.ErrState || code == impl.ErrLimit
			if !known || code != impl.ErrNone && !zero || (code == impl.ErrInvalid) == impl.IsAlgebra(x.a) {
				t.Fatalf("%s(%v, %d): code %d", c.name, x.a, n, code)
			}
			codes[code]++
		}
		for _, c := range callsOfAssignments() {
			if zero, code := c.call(x, n); code < 0 || code > impl.ErrLimit || code != impl.ErrNone && !zero {
				t.Fatalf("%s(%v, %d): code %d", c.name, x, n, code)
			}
		}
		m := anyMonomial(r)
		impl.ImageOfForm(x.a, x.b, x.m, formOf(term(1, m[:]...)))
	}
	for _, code := range []int64{impl.ErrNone, impl.ErrInvalid, impl.ErrRange, impl.ErrState, impl.ErrLimit} {
		if codes[code] < 20 {
			t.Errorf("the code %d was met %d times", code, codes[code])
		}
	}
}
