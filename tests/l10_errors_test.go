package tests

import (
	"math"
	"math/rand"
	"slices"
	"testing"

	"loop.example/g01219/impl"
)

// pageCall calls a function that takes a degree n and perhaps r and p. It returns whether the result is the zero value.
type pageCall struct {
	name         string
	takesR, asks bool // asks tells whether it takes p
	call         func(a impl.Algebra, r, p, n int64) (bool, int64)
}

func pageCalls() []pageCall {
	return []pageCall{
		{"DimensionOfF", false, true, func(a impl.Algebra, r, p, n int64) (bool, int64) {
			x, code := impl.DimensionOfF(a, p, n)
			return x == 0, code
		}},
		{"WidthOf", false, false, func(a impl.Algebra, r, p, n int64) (bool, int64) {
			x, code := impl.WidthOf(a, n)
			return x == 0, code
		}},
		{"PageDimension", true, true, func(a impl.Algebra, r, p, n int64) (bool, int64) {
			x, code := impl.PageDimension(a, r, p, n)
			return x == 0, code
		}},
		{"PageRow", true, false, func(a impl.Algebra, r, p, n int64) (bool, int64) {
			x, code := impl.PageRow(a, r, n)
			return len(x) == 0, code
		}},
		{"PagesStopAt", false, false, func(a impl.Algebra, r, p, n int64) (bool, int64) {
			x, code := impl.PagesStopAt(a, n)
			return x == 0, code
		}},
	}
}

// check calls a function with the numbers r, p and n.
func (c pageCall) check(t *testing.T, a impl.Algebra, numbers [3]int64, want int64) {
	t.Helper()
	if zero, code := c.call(a, numbers[0], numbers[1], numbers[2]); code != want || code != impl.ErrNone && !zero {
		t.Errorf("%s(%v, %v): code %d, not %d; the zero value: %v", c.name, a, numbers, code, want, zero)
	}
}

// isIn reports whether the numbers that the function takes are in their ranges.
func (c pageCall) isIn(numbers [3]int64) bool {
	isWithin := func(k int64) bool { return k >= 0 && k <= 20 }
	return (!c.takesR || isWithin(numbers[0])) && (!c.asks || isWithin(numbers[1])) && isWithin(numbers[2])
}

func checkPageCodes(t *testing.T, a impl.Algebra, numbers [3]int64, want int64) {
	t.Helper()
	for _, c := range pageCalls() {
		c.check(t, a, numbers, want)
	}
}

// checkQuadraticCodes calls the functions that take an algebra alone.
func checkQuadraticCodes(t *testing.T, a impl.Algebra, want int64) {
	t.Helper()
	if b, code := impl.QuadraticAlgebra(a); code != want || code != impl.ErrNone && !isZeroAlgebra(b) {
		t.Errorf("QuadraticAlgebra(%v) = %v, %d, not %d", a, b, code, want)
	}
	if yes, code := impl.IsCoformal(a); code != want || code != impl.ErrNone && yes {
		t.Errorf("IsCoformal(%v) = %v, %d, not %d", a, yes, code, want)
	}
}

func checkFiltrationCode(t *testing.T, a impl.Algebra, f impl.Form, want int64) {
	t.Helper()
	if p, code := impl.FiltrationOf(a, f); code != want || code != impl.ErrNone && p != 0 {
		t.Errorf("FiltrationOf(%v, %v) = %d, %d, not %d", a, f, p, code, want)
	}
}

// strangeNumbers has r, p and n in no ranges, and in them.
func strangeNumbers() [][3]int64 {
	return [][3]int64{{0, 0, 0}, {2, 1, 3}, {20, 20, 20}, {-1, 0, 0}, {0, -1, 0}, {0, 0, -1}, {21, 21, 21}, {math.MinInt64, math.MinInt64, math.MinInt64}, {math.MaxInt64, math.MaxInt64, math.MaxInt64}}
}

func TestInvalidPages(t *testing.T) {
	for _, a := range badAlgebras(t) {
		for _, numbers := range strangeNumbers() {
			checkPageCodes(t, a, numbers, impl.ErrInvalid)
		}
		checkQuadraticCodes(t, a, impl.ErrInvalid)
		for _, f := range []impl.Form{{}, formOf(term(1)), formOf(term(1, 0, 20)), formOf(term(0))} {
			checkFiltrationCode(t, a, f, impl.ErrInvalid)
		}
	}
	for _, text := range []string{"1:0;2:0", "1:0;2:1*ab", "1:1*b;2:0"} {
		for _, f := range badForms() {
			checkFiltrationCode(t, algebra(t, text), f, impl.ErrInvalid)
		}
	}
	checkFiltrationCode(t, algebra(t, "2:0;2:0"), grid(401, 1), impl.ErrInvalid)
	checkFiltrationCode(t, impl.Algebra{}, formOf(term(1, 1)), impl.ErrInvalid)
}

// otherTexts returns texts of algebras that are not minimal, the last one with too many monomials.
func otherTexts() []string {
	return []string{
		"1:1*b;2:0",
		"4:5*b;5:0;2:0",
		"2:0;3:1*a2+1*c;4:0",
		"2:0;3:1*a2;3:1*d;4:0",
		"1:0;2:1*ab+1*c;3:1*ac",
		"12:0;11:10006*a",
		"2:0;2:0;2:0;2:0;2:0;2:0;2:0;1:1*a",
	}
}

// TestPagesNeedMinimalAlgebras has numbers in no range, and forms of all kinds.
func TestPagesNeedMinimalAlgebras(t *testing.T) {
	for _, text := range otherTexts() {
		a := algebra(t, text)
		for _, numbers := range strangeNumbers() {
			checkPageCodes(t, a, numbers, impl.ErrState)
		}
		checkQuadraticCodes(t, a, impl.ErrState)
		for i := range a.Degrees {
			checkFiltrationCode(t, a, generator(i, 1), impl.ErrState)
			checkFiltrationCode(t, a, a.Images[i], impl.ErrState)
		}
		for _, f := range []impl.Form{{}, formOf(term(1)), formOf(term(1, 1), term(1))} {
			checkFiltrationCode(t, a, f, impl.ErrState)
		}
	}
	// A class of a degree that is too great, or with too many monomials.
	checkFiltrationCode(t, algebra(t, "1:1*b;2:0;4:0"), formOf(term(1, 0, 0, 20)), impl.ErrState)
	checkFiltrationCode(t, algebra(t, otherTexts()[6]), formOf(term(1, 0, 0, 0, 0, 8)), impl.ErrState)
}

// TestRangesOfPages has each number at both ends of its range and one beyond, also where there are too many monomials.
func TestRangesOfPages(t *testing.T) {
	if impl.MaxPage != 20 {
		t.Errorf("MaxPage is %d", impl.MaxPage)
	}
	list := []int64{0, 20, 1, -1, 21, math.MinInt64, math.MaxInt64}
	for _, text := range append(pageTexts(), "2:0;2:0;2:0;2:0;2:0;2:0;2:0;2:0", crowded()[0].text) {
		a := algebra(t, text)
		for _, r := range list {
			for _, p := range list {
				for _, n := range list {
					numbers := [3]int64{r, p, n}
					for _, c := range pageCalls() {
						want := int64(impl.ErrNone)
						switch {
						case !c.isIn(numbers):
							want = impl.ErrRange
						case slices.Max([]int{0, countAt(a, n-1), countAt(a, n), countAt(a, n+1)}) > impl.MaxSide:
							want = impl.ErrLimit
						}
						c.check(t, a, numbers, want)
					}
				}
			}
		}
	}
}

func countAt(a impl.Algebra, n int64) int {
	return len(allMonomials(a.Degrees, n))
}

// crowdedAlgebra has 121 monomials of a single degree.
type crowdedAlgebra struct {
	a    impl.Algebra
	peak int64
}

// crowdedMinimal has the minimal ones, with peaks at the degree 19, 20 and 21.
func crowdedMinimal(t *testing.T) []crowdedAlgebra {
	t.Helper()
	var list []crowdedAlgebra
	peaks := map[int64]bool{}
	for _, c := range crowded() {
		if a := algebra(t, c.text); isMinimalByWords(a) {
			checkPeak(t, a, c.peak)
			list = append(list, crowdedAlgebra{a, c.peak})
			peaks[c.peak] = true
		}
	}
	if len(peaks) != 3 {
		t.Fatalf("the peaks are %v", peaks)
	}
	return list
}

// TestLimitsOfPages exceeds MaxSide by one in a single degree, which is the one asked for, the one below or the one above.
func TestLimitsOfPages(t *testing.T) {
	for _, c := range crowdedMinimal(t) {
		a, peak := c.a, c.peak
		for n := range int64(impl.MaxAsked + 1) {
			want := int64(impl.ErrNone)
			if n >= peak-1 && n <= peak+1 {
				want = impl.ErrLimit
			}
			for _, numbers := range [][3]int64{{0, 0, n}, {1, 2, n}, {3, 1, n}, {20, 20, n}} {
				checkPageCodes(t, a, numbers, want)
			}
		}
		checkQuadraticCodes(t, a, impl.ErrNone)
	}
}

// TestPagesBehindCrowdedDegrees has too many monomials of the degrees 16 and 20, and none of the degrees 17 and 19.
func TestPagesBehindCrowdedDegrees(t *testing.T) {
	a := algebra(t, "4:0;4:0;4:0;4:0;4:0;4:0;4:0;10:0")
	for n := int64(13); n <= 20; n++ {
		want := int64(impl.ErrLimit)
		if n < 15 || n == 18 {
			want = impl.ErrNone
		}
		checkPageCodes(t, a, [3]int64{2, 1, n}, want)
	}
	if got := pageRow(t, a, 2, 18); !slices.Equal(got, []int64{0, 0, 0, 28}) {
		t.Errorf("PageRow(.., 2, 18) = %v", got)
	}
	for text, want := range map[string]int64{"1*a2h": impl.ErrNone, "1*a4": impl.ErrLimit, "1*h2": impl.ErrLimit, "1*a3": impl.ErrNone} {
		checkFiltrationCode(t, a, parse(t, a.Degrees, text), want)
	}
}

// TestPagesWithinLimits has 120 monomials of one or more degrees, and never more.
func TestPagesWithinLimits(t *testing.T) {
	for _, text := range []string{"1:0;3:0;3:0;3:0;3:0;4:0;4:0;4:0", "6:0;6:0;6:0;6:0;6:0;6:0;6:0;6:0", "2:0;2:0;2:0;6:0", "2:0;2:0;2:0;6:0;11:1*a6+1*d2"} {
		a := algebra(t, text)
		most := 0
		x := filteredOf(a)
		for n := range int64(impl.MaxAsked + 1) {
			most = max(most, countAt(a, n+1))
			if countAt(a, n+1) > 120 || countAt(a, n) > 120 || countAt(a, n-1) > 120 {
				checkPageCodes(t, a, [3]int64{2, 1, n}, impl.ErrLimit)
				continue
			}
			for r := range int64(4) {
				if got, want := pageRow(t, a, r, n), x.row(r, n); !slices.Equal(got, want) {
					t.Errorf("PageRow(%q, %d, %d) = %v, not %v", text, r, n, got, want)
				}
			}
		}
		if most < 120 {
			t.Errorf("%q has at most %d monomials of a degree", text, most)
		}
	}
}

// TestFiltrationErrors has ErrState for forms that have none, though their degree may be too great, or have too many
// monomials.
func TestFiltrationErrors(t *testing.T) {
	const wide = "2:0;2:0;2:0;2:0;2:0;2:0;2:0;3:1*a2"
	for _, c := range []struct {
		text, f string
		want    int64
	}{
		{"", "0", impl.ErrState},
		{"", "1*1", impl.ErrNone},
		{"2:0;3:1*a2", "0", impl.ErrState},
		{"2:0;3:1*a2", "1*a+1*1", impl.ErrState},
		{"2:0;3:0", "1*a+1*b", impl.ErrState},
		{"2:0;3:1*a2", "1*b", impl.ErrState},
		{"2:0;3:1*a2", "1*ab", impl.ErrState},
		{"2:0;3:1*a2", "1*a2", impl.ErrState},
		{"2:0;3:1*a2", "7*a10", impl.ErrState},
		{"2:0;5:1*a3", "1*a3", impl.ErrState},
		{"2:0;4:0;7:1*a4+1*b2", "5*a4+5*b2", impl.ErrState},
		{"1:0;1:0;1:1*ab", "1*ab", impl.ErrState},
		// The greatest degree that is asked, and one more.
		{"2:0", "1*a10", impl.ErrNone},
		{"10:0;11:0", "1*ab", impl.ErrRange},
		{"2:0", "1*a11", impl.ErrRange},
		{"2:0", "1*a20", impl.ErrRange},
		{"12:0", "1*a20", impl.ErrRange},
		{"4:0;9:0", "3*a3b", impl.ErrRange},
		// A boundary of such a degree cannot be told.
		{"2:0;3:1*a2", "1*a11", impl.ErrRange},
		{"2:0;3:1*a2", "1*a11+1*a", impl.ErrState},
		{"2:0;3:1*a2", "1*a9b", impl.ErrState},
		{"2:0;3:1*a2;3:1*a2", "1*a12bc", impl.ErrState},
		{wide, "0", impl.ErrState},
		{wide, "1*h", impl.ErrState},
		{wide, "1*a9h", impl.ErrState},
		{wide, "1*a8+1*b7", impl.ErrState},
		{wide, "1*a2", impl.ErrState},
		{wide, "1*b2", impl.ErrNone},
		{wide, "1*b8", impl.ErrLimit},
		{wide, "1*a8", impl.ErrLimit},
		{wide, "1*b10", impl.ErrLimit},
		{wide, "1*b11", impl.ErrRange},
		{wide, "1*a11", impl.ErrRange},
	} {
		a := algebra(t, c.text)
		checkFiltrationCode(t, a, parse(t, a.Degrees, c.f), c.want)
	}
	// Such a degree does not matter for a form that is not homogeneous.
	checkFiltrationCode(t, algebra(t, "2:0;2:0"), grid(2, 1), impl.ErrState)
}

// TestFiltrationsOfCrowdedDegrees has closed forms of each degree of algebras with 121 monomials of a single one.
func TestFiltrationsOfCrowdedDegrees(t *testing.T) {
	for _, c := range crowdedMinimal(t) {
		a, peak := c.a, c.peak
		for n := range int64(impl.MaxAsked + 1) {
			for _, f := range closedMonomials(a, n) {
				want := int64(impl.ErrNone)
				switch {
				case n >= peak-1 && n <= peak+1:
					want = impl.ErrLimit
				case boundariesByWords(a, n).has(f):
					want = impl.ErrState
				}
				checkFiltrationCode(t, a, f, want)
			}
		}
	}
}

// filtrationCodeByWords returns the code that the chapter tells.
func filtrationCodeByWords(a impl.Algebra, f impl.Form) int64 {
	if !impl.IsAlgebra(a) || !impl.IsForm(a.Degrees, f) {
		return impl.ErrInvalid
	}
	n, code := impl.DegreeOfForm(a.Degrees, f)
	switch {
	case !isMinimalByWords(a), len(f.Terms) == 0, code != impl.ErrNone, len(differentialByWords(a, f).Terms) > 0:
		return impl.ErrState
	case n > 20:
		return impl.ErrRange
	case max(countAt(a, n-1), countAt(a, n), countAt(a, n+1)) > 120:
		return impl.ErrLimit
	case boundariesByWords(a, n).has(f):
		return impl.ErrState
	}
	return impl.ErrNone
}

// anyForm returns a form, or what is none, often closed.
func anyForm(r *rand.Rand, a impl.Algebra) impl.Form {
	m := anyMonomial(r)
	if !impl.IsAlgebra(a) || r.Intn(8) == 0 {
		return formOf(term(r.Int63n(3), m[:]...))
	}
	switch r.Intn(3) {
	case 0:
		return randomForm(r, a.Degrees, 3, 3)
	case 1:
		return randomBoundary(r, a, r.Int63n(22))
	}
	return randomClosed(r, a, r.Int63n(24))
}

// TestAnyPage calls everything with what is often invalid, and compares the codes with those that the chapter tells.
func TestAnyPage(t *testing.T) {
	r := rand.New(rand.NewSource(224))
	counts := map[int64]int{}
	for range 4000 {
		a := anyAlgebra(t, r)
		if r.Intn(3) == 0 {
			a = pageAlgebra(t, r, 600)
		}
		good := impl.IsAlgebra(a)
		state := int64(impl.ErrNone)
		switch {
		case !good:
			state = impl.ErrInvalid
		case !isMinimalByWords(a):
			state = impl.ErrState
		}
		checkQuadraticCodes(t, a, state)
		numbers := [3]int64{r.Int63n(24) - 1, r.Int63n(24) - 1, r.Int63n(24) - 1}
		for _, c := range pageCalls() {
			want := state
			switch {
			case state != impl.ErrNone:
			case !c.isIn(numbers):
				want = impl.ErrRange
			case max(countAt(a, numbers[2]-1), countAt(a, numbers[2]), countAt(a, numbers[2]+1)) > 120:
				want = impl.ErrLimit
			}
			c.check(t, a, numbers, want)
			counts[want]++
		}
		f := anyForm(r, a)
		checkFiltrationCode(t, a, f, filtrationCodeByWords(a, f))
	}
	for _, code := range []int64{impl.ErrNone, impl.ErrInvalid, impl.ErrRange, impl.ErrLimit, impl.ErrState} {
		if counts[code] < 100 {
			t.Errorf("the code %d was met %d times", code, counts[code])
		}
	}
}
