package tests

import (
	"math"
	"math/rand"
	"testing"

	"loop.example/g01219/impl"
)

// degreeCall calls a function that takes a degree. It returns whether the result is the zero value.
type degreeCall struct {
	name string
	call func(a impl.Algebra, n int64) (bool, int64)
}

// callsOfOneDegree has the functions that look at one degree and its neighbours.
func callsOfOneDegree() []degreeCall {
	return []degreeCall{
		{"MatrixOfD", func(a impl.Algebra, n int64) (bool, int64) {
			x, code := impl.MatrixOfD(a, n)
			return len(x) == 0, code
		}},
		{"RankOfD", func(a impl.Algebra, n int64) (bool, int64) {
			x, code := impl.RankOfD(a, n)
			return x == 0, code
		}},
		{"ClosedForms", func(a impl.Algebra, n int64) (bool, int64) {
			x, code := impl.ClosedForms(a, n)
			return len(x) == 0, code
		}},
		{"BoundaryForms", func(a impl.Algebra, n int64) (bool, int64) {
			x, code := impl.BoundaryForms(a, n)
			return len(x) == 0, code
		}},
		{"ClassForms", func(a impl.Algebra, n int64) (bool, int64) {
			x, code := impl.ClassForms(a, n)
			return len(x) == 0, code
		}},
	}
}

// callsOfManyDegrees has the functions that look at all degrees from 0 on.
func callsOfManyDegrees() []degreeCall {
	return []degreeCall{
		{"BettiNumbers", func(a impl.Algebra, m int64) (bool, int64) {
			x, code := impl.BettiNumbers(a, m)
			return len(x) == 0, code
		}},
		{"LengthOfProducts", func(a impl.Algebra, m int64) (bool, int64) {
			x, code := impl.LengthOfProducts(a, m)
			return x == 0, code
		}},
		{"ProductOfClasses", func(a impl.Algebra, m int64) (bool, int64) {
			x, code := impl.ProductOfClasses(a, 0, 0, m, 0)
			return len(x) == 0, code
		}},
		{"ProductOfClasses turned round", func(a impl.Algebra, m int64) (bool, int64) {
			x, code := impl.ProductOfClasses(a, m, 0, 0, 0)
			return len(x) == 0, code
		}},
	}
}

func degreeCalls() []degreeCall {
	return append(callsOfOneDegree(), callsOfManyDegrees()...)
}

// formCall calls a function that takes a form. It returns whether the result is the zero value.
type formCall struct {
	name string
	call func(a impl.Algebra, f impl.Form) (bool, int64)
}

// formCalls has ClassOf first.
func formCalls() []formCall {
	return []formCall{
		{"ClassOf", func(a impl.Algebra, f impl.Form) (bool, int64) {
			x, code := impl.ClassOf(a, f)
			return len(x) == 0, code
		}},
		{"IsBoundary", func(a impl.Algebra, f impl.Form) (bool, int64) {
			x, code := impl.IsBoundary(a, f)
			return !x, code
		}},
		{"PrimitiveOf", func(a impl.Algebra, f impl.Form) (bool, int64) {
			x, code := impl.PrimitiveOf(a, f)
			return len(x.Terms) == 0, code
		}},
	}
}

// checkFormCodes checks the codes of ClassOf, IsBoundary and PrimitiveOf.
func checkFormCodes(t *testing.T, a impl.Algebra, f impl.Form, class, boundary, primitive int64) {
	t.Helper()
	want := []int64{class, boundary, primitive}
	for i, c := range formCalls() {
		if zero, code := c.call(a, f); code != want[i] || code != impl.ErrNone && !zero {
			t.Errorf("%s(%v, %v): code %d, not %d; the zero value: %v", c.name, a, f, code, want[i], zero)
		}
	}
}

func checkFormCode(t *testing.T, a impl.Algebra, f impl.Form, want int64) {
	t.Helper()
	checkFormCodes(t, a, f, want, want, want)
}

// crowded has texts of algebras with 121 monomials of a single degree, and of no other one up to 21
// more than 120.
func crowded() []struct {
	text string
	peak int64
} {
	return []struct {
		text string
		peak int64
	}{
		{"3:0;3:0;3:0;4:0;4:0;4:0;4:0;6:1*ad", 19},
		{"3:0;3:0;3:0;4:0;4:0;4:0;4:0;6:0", 19},
		{"2:0;4:0;4:0;4:0;6:0;7:0;7:0;8:0", 20},
		{"2:0;4:0;4:0;4:0;6:0;7:1*ae;7:1*b2;8:0", 20},
		{"1:0;2:0;2:0;2:0;3:0", 21},
		{"1:1*b;2:0;2:0;2:0;3:1*b2", 21},
	}
}

func TestInvalidCohomology(t *testing.T) {
	list := badAlgebras(t)
	for _, a := range list {
		for _, c := range degreeCalls() {
			for _, n := range []int64{0, 2, 20, -1, 21, math.MinInt64, math.MaxInt64} {
				if zero, code := c.call(a, n); !zero || code != impl.ErrInvalid {
					t.Errorf("%s(%v, %d): code %d", c.name, a, n, code)
				}
			}
		}
		for _, f := range []impl.Form{{}, formOf(term(1)), formOf(term(1, 20, 20)), formOf(term(0))} {
			checkFormCode(t, a, f, impl.ErrInvalid)
		}
		if got, code := impl.ProductOfClasses(a, -1, 50, 30, -5); len(got) != 0 || code != impl.ErrInvalid {
			t.Errorf("ProductOfClasses(%v, ..) = %v, %d", a, got, code)
		}
	}
	for _, f := range badForms() {
		checkFormCode(t, algebra(t, "1:0;2:0"), f, impl.ErrInvalid)
		checkFormCode(t, algebra(t, "1:1*b;2:0"), f, impl.ErrInvalid)
	}
	checkFormCode(t, algebra(t, "2:0;2:0"), grid(401, 1), impl.ErrInvalid)
	checkFormCode(t, impl.Algebra{}, formOf(term(1, 1)), impl.ErrInvalid)
}

func TestRangesOfDegrees(t *testing.T) {
	texts := []string{"", "1:0", "2:0;3:1*a2", "2:0;2:0;2:0;2:0;2:0;2:0;2:0;2:0"}
	for _, c := range crowded() {
		texts = append(texts, c.text)
	}
	for _, text := range texts {
		a := algebra(t, text)
		for _, c := range degreeCalls() {
			for _, n := range []int64{-1, 21, 22, 40, math.MinInt64, math.MaxInt64} {
				if zero, code := c.call(a, n); !zero || code != impl.ErrRange {
					t.Errorf("%s(%q, %d): code %d", c.name, text, n, code)
				}
			}
		}
	}
	for _, text := range []string{"", "1:0", "2:0;3:1*a2", "12:0"} {
		a := algebra(t, text)
		for _, n := range []int64{0, 20} {
			for _, c := range append(callsOfOneDegree(), callsOfManyDegrees()[:2]...) {
				if _, code := c.call(a, n); code != impl.ErrNone {
					t.Errorf("%s(%q, %d): code %d", c.name, text, n, code)
				}
			}
		}
	}
}

// TestLimitsOfOneDegree exceeds MaxSide by one in a single degree.
func TestLimitsOfOneDegree(t *testing.T) {
	for _, x := range crowded() {
		a := algebra(t, x.text)
		checkPeak(t, a, x.peak)
		for n := range int64(impl.MaxAsked + 1) {
			for _, c := range callsOfOneDegree() {
				zero, code := c.call(a, n)
				if near := n >= x.peak-1 && n <= x.peak+1; near && (!zero || code != impl.ErrLimit) || !near && code != impl.ErrNone {
					t.Errorf("%s(%q, %d): code %d", c.name, x.text, n, code)
				}
			}
			for _, c := range callsOfManyDegrees() {
				zero, code := c.call(a, n)
				if beyond := n >= x.peak-1; beyond && (!zero || code != impl.ErrLimit) || !beyond && code == impl.ErrLimit {
					t.Errorf("%s(%q, %d): code %d", c.name, x.text, n, code)
				}
			}
		}
	}
}

// checkPeak checks that an algebra has 121 monomials of a degree, and fewer of all others up to 21.
func checkPeak(t *testing.T, a impl.Algebra, peak int64) {
	t.Helper()
	for n := range int64(22) {
		if count := len(allMonomials(a.Degrees, n)); n == peak && count != 121 || n != peak && count > 120 {
			t.Fatalf("%v has %d monomials of the degree %d", a.Degrees, count, n)
		}
	}
}

// TestLimitsThatAreMet has 120 monomials of one or more degrees, and never more up to 21.
func TestLimitsThatAreMet(t *testing.T) {
	for _, text := range []string{
		"1:0;3:0;3:0;3:0;3:0;4:0;4:0;4:0",
		"1:0;3:1*f;3:1*g+1*h;3:0;3:0;4:0;4:0;4:0",
		"6:0;6:0;6:0;6:0;6:0;6:0;6:0;6:0",
		"2:0;2:0;2:0;6:0",
		"1:0;2:1*ac;2:0;2:0;6:0",
	} {
		a := algebra(t, text)
		if most := mostMonomials(a, 21); most != 120 {
			t.Fatalf("%q has up to %d monomials of one degree", text, most)
		}
		for n := range int64(impl.MaxAsked + 1) {
			for _, c := range append(callsOfOneDegree(), callsOfManyDegrees()[0]) {
				if _, code := c.call(a, n); code != impl.ErrNone {
					t.Errorf("%s(%q, %d): code %d", c.name, text, n, code)
				}
			}
			checkBases(t, a, n)
		}
		if _, code := impl.LengthOfProducts(a, 20); code != impl.ErrNone {
			t.Errorf("LengthOfProducts(%q, 20): code %d", text, code)
		}
	}
}

// TestLimitsOfForms takes a closed form of each degree of algebras with 121 monomials of one degree.
func TestLimitsOfForms(t *testing.T) {
	for _, x := range crowded() {
		a := algebra(t, x.text)
		checkFormCode(t, a, impl.Form{}, impl.ErrNone)
		for n := range int64(impl.MaxAsked + 1) {
			for _, f := range closedMonomials(a, n) {
				if n >= x.peak-1 && n <= x.peak+1 {
					checkFormCode(t, a, f, impl.ErrLimit)
					continue
				}
				boundary := boundariesByWords(a, n).has(f)
				want := int64(impl.ErrNone)
				if !boundary {
					want = impl.ErrNotFound
				}
				checkFormCodes(t, a, f, impl.ErrNone, impl.ErrNone, want)
			}
		}
	}
}

// closedMonomials returns the first and the last monomial of a degree that are closed.
func closedMonomials(a impl.Algebra, n int64) []impl.Form {
	var found []impl.Form
	for _, m := range allMonomials(a.Degrees, n) {
		if f := formOf(impl.Term{Monomial: m, Factor: 1}); len(differentialByWords(a, f).Terms) == 0 {
			found = append(found, f)
		}
	}
	if len(found) > 2 {
		found = []impl.Form{found[0], found[len(found)-1]}
	}
	return found
}

// TestOrderOfErrorsOfForms has forms that would be errors in more than one way.
func TestOrderOfErrorsOfForms(t *testing.T) {
	const big = "2:0;2:0;2:0;2:0;2:0;2:0;2:0;3:1*a2" // more than 120 monomials of the degree 8
	cases := []struct {
		algebra, f                 string
		class, boundary, primitive int64
	}{
		{"2:0;3:1*a2", "1*a2+1*a", impl.ErrState, impl.ErrState, impl.ErrState},
		{"2:0;3:1*a2", "1*a+1*1", impl.ErrState, impl.ErrState, impl.ErrState},
		{"2:0;3:1*a2", "1*a20+1*a", impl.ErrState, impl.ErrState, impl.ErrState},
		{"2:0;3:1*a2", "1*a11", impl.ErrRange, impl.ErrRange, impl.ErrRange},
		{"2:0;3:1*a2", "1*a20", impl.ErrRange, impl.ErrRange, impl.ErrRange},
		{"2:0;3:1*a2", "1*a9b", impl.ErrState, impl.ErrRange, impl.ErrRange},
		{"2:0;3:1*a2", "1*a20b", impl.ErrState, impl.ErrRange, impl.ErrRange},
		{"2:0;3:1*a2", "1*a8b", impl.ErrState, impl.ErrNone, impl.ErrNotFound},
		{"1:0;2:0", "1*ab10", impl.ErrRange, impl.ErrRange, impl.ErrRange},
		{"1:0;2:0", "1*b10", impl.ErrNone, impl.ErrNone, impl.ErrNotFound},
		{"10:0", "1*a2", impl.ErrNone, impl.ErrNone, impl.ErrNotFound},
		{"11:0;10:0", "1*ab", impl.ErrRange, impl.ErrRange, impl.ErrRange},
		{big, "1*a", impl.ErrNone, impl.ErrNone, impl.ErrNotFound},
		{big, "1*a3", impl.ErrNone, impl.ErrNone, impl.ErrNone},
		{big, "1*a2h", impl.ErrState, impl.ErrLimit, impl.ErrLimit},
		{big, "1*a4", impl.ErrLimit, impl.ErrLimit, impl.ErrLimit},
		{big, "1*b4", impl.ErrLimit, impl.ErrLimit, impl.ErrLimit},
		{big, "1*a4+1*a", impl.ErrState, impl.ErrState, impl.ErrState},
		{big, "1*a11", impl.ErrRange, impl.ErrRange, impl.ErrRange},
		{big, "1*a10h", impl.ErrState, impl.ErrRange, impl.ErrRange},
		{big, "1*a11+1*a10", impl.ErrState, impl.ErrState, impl.ErrState},
		{big, "0", impl.ErrNone, impl.ErrNone, impl.ErrNone},
	}
	for _, c := range cases {
		a := algebra(t, c.algebra)
		checkFormCodes(t, a, parse(t, a.Degrees, c.f), c.class, c.boundary, c.primitive)
	}
}

// TestOrderOfErrorsOfProducts has ErrRange for degrees and indices ahead of ErrLimit, and for class
// forms that do not exist behind it.
func TestOrderOfErrorsOfProducts(t *testing.T) {
	const big = "2:0;2:0;2:0;2:0;2:0;2:0;2:0;2:0" // 330 monomials of the degree 8, 120 of the degree 6
	cases := []struct {
		algebra    string
		n, i, m, j int64
		want       int64
	}{
		{"2:0", -1, 0, 2, 0, impl.ErrRange},
		{"2:0", 2, 0, -1, 0, impl.ErrRange},
		{"2:0", 2, -1, 2, 0, impl.ErrRange},
		{"2:0", 2, 0, 2, -1, impl.ErrRange},
		{"2:0", 2, 1, 2, 0, impl.ErrRange},
		{"2:0", 2, 0, 2, math.MaxInt64, impl.ErrRange},
		{"2:0", 22, 0, -2, 0, impl.ErrRange},
		{"2:0", 21, 0, 0, 0, impl.ErrRange},
		{"2:0", 0, 0, 21, 0, impl.ErrRange},
		{"2:0", 11, 0, 10, 0, impl.ErrRange},
		{"2:0", math.MaxInt64, 0, math.MaxInt64, 0, impl.ErrRange},
		{"2:0", math.MinInt64, 0, math.MinInt64, 0, impl.ErrRange},
		{"2:0", math.MaxInt64, 0, 2, 0, impl.ErrRange},
		{big, 2, 0, 2, 7, impl.ErrNone},
		{big, 2, 7, 4, 35, impl.ErrNone},
		{big, 2, 8, 4, 35, impl.ErrRange},
		{big, 2, 7, 4, 36, impl.ErrRange},
		{big, 2, 0, 5, 0, impl.ErrLimit},
		{big, 4, 0, 4, 0, impl.ErrLimit},
		{big, 4, 36, 4, 0, impl.ErrLimit},
		{big, 4, 0, 4, math.MaxInt64, impl.ErrLimit},
		{big, 3, 0, 5, 0, impl.ErrLimit},
		{big, 4, -1, 4, 0, impl.ErrRange},
		{big, 4, 0, 4, math.MinInt64, impl.ErrRange},
		{big, 12, 0, 10, 0, impl.ErrRange},
		{big, 10, 0, 11, 0, impl.ErrRange},
		{big, 10, 0, 10, 0, impl.ErrLimit},
	}
	for _, c := range cases {
		got, code := impl.ProductOfClasses(algebra(t, c.algebra), c.n, c.i, c.m, c.j)
		if code != c.want || code != impl.ErrNone && len(got) != 0 {
			t.Errorf("ProductOfClasses(%q, %d, %d, %d, %d) = %v, %d", c.algebra, c.n, c.i, c.m, c.j, got, code)
		}
	}
}

// TestLimitsOfLowerDegrees has 132 monomials of the degree 16, and fewer than 120 of the degrees 17 to
// 19: functions of many degrees look at all of them from 0 on, those of one degree at its neighbours
// alone.
func TestLimitsOfLowerDegrees(t *testing.T) {
	a := algebra(t, "4:0;4:0;4:0;4:0;4:0;4:0;6:0")
	for _, c := range callsOfOneDegree() {
		for _, n := range []int64{4, 14, 18} {
			if _, code := c.call(a, n); code != impl.ErrNone {
				t.Errorf("%s in the degree %d: code %d", c.name, n, code)
			}
		}
	}
	for _, c := range callsOfManyDegrees() {
		for n, want := range map[int64]int64{14: impl.ErrNone, 15: impl.ErrLimit, 18: impl.ErrLimit} {
			if zero, code := c.call(a, n); code != want || code != impl.ErrNone && !zero {
				t.Errorf("%s up to the degree %d: code %d", c.name, n, code)
			}
		}
	}
	if got, code := impl.ProductOfClasses(a, 4, 0, 14, 0); len(got) != 0 || code != impl.ErrLimit {
		t.Errorf("ProductOfClasses(4, 0, 14, 0) = %v, %d", got, code)
	}
	f := parse(t, a.Degrees, "1*a3g")
	checkFormCodes(t, a, f, impl.ErrNone, impl.ErrNone, impl.ErrNotFound)
	if got, code := impl.ClassOf(a, f); len(got) != 57 || got[0] != 1 || code != impl.ErrNone {
		t.Errorf("ClassOf(%v) = %v, %d", f, got, code)
	}
}

// TestAnyCohomology calls everything with what is often invalid: nothing panics, and results beside
// errors are zero values.
func TestAnyCohomology(t *testing.T) {
	r := rand.New(rand.NewSource(59))
	codes := map[int64]int{}
	for range 3000 {
		a := anyAlgebra(t, r)
		m := anyMonomial(r)
		f := []impl.Form{formOf(term(r.Int63n(3)-1, m[:]...)), randomForm(r, a.Degrees[:min(8, len(a.Degrees))], 2, 3), {}}[r.Intn(3)]
		n := []int64{r.Int63n(25) - 2, math.MinInt64, math.MaxInt64}[min(2, r.Intn(10)/8)]
		for _, c := range degreeCalls() {
			zero, code := c.call(a, n)
			if code < 0 || code > impl.ErrLimit || code != impl.ErrNone && !zero || (code == impl.ErrInvalid) == impl.IsAlgebra(a) {
				t.Fatalf("%s(%v, %d): code %d", c.name, a, n, code)
			}
			codes[code]++
		}
		for _, c := range formCalls() {
			zero, code := c.call(a, f)
			if code != impl.ErrNone && !zero || (code == impl.ErrInvalid) == (impl.IsAlgebra(a) && impl.IsForm(a.Degrees, f)) {
				t.Fatalf("%s(%v, %v): code %d", c.name, a, f, code)
			}
			codes[code]++
		}
		impl.ProductOfClasses(a, n, r.Int63n(5)-1, r.Int63n(22)-1, r.Int63n(5)-1)
	}
	for code := range int64(impl.ErrSyntax) {
		if codes[code] < 20 {
			t.Errorf("the code %d was met %d times", code, codes[code])
		}
	}
}
