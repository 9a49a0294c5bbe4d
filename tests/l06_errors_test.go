package tests

import (
	"math"
	"math/rand"
	"slices"
	"testing"

	"loop.example/g01219/impl"
)

// callsOfReductions has the functions that take an algebra alone. They return whether the result is the zero
// value.
func callsOfReductions() []degreeCall {
	return []degreeCall{
		{"FirstPair", func(a impl.Algebra, _ int64) (bool, int64) {
			pair, code := impl.FirstPair(a)
			return len(pair) == 0, code
		}},
		{"ContractPair", func(a impl.Algebra, _ int64) (bool, int64) {
			b, m, code := impl.ContractPair(a)
			return isZeroAlgebra(b) && len(m) == 0, code
		}},
		{"ReduceAlgebra", func(a impl.Algebra, _ int64) (bool, int64) {
			b, m, code := impl.ReduceAlgebra(a)
			return isZeroAlgebra(b) && len(m) == 0, code
		}},
		{"IsContractible", func(a impl.Algebra, _ int64) (bool, int64) {
			yes, code := impl.IsContractible(a)
			return !yes, code
		}},
		{"SortGenerators", func(a impl.Algebra, _ int64) (bool, int64) {
			b, list, code := impl.SortGenerators(a)
			return isZeroAlgebra(b) && len(list) == 0, code
		}},
	}
}

// callsOfGenerators has the functions that take a generator.
func callsOfGenerators() []degreeCall {
	return []degreeCall{
		{"ChangeGenerator", func(a impl.Algebra, i int64) (bool, int64) {
			b, code := impl.ChangeGenerator(a, i, impl.Form{})
			return isZeroAlgebra(b), code
		}},
		{"ChangeGenerator by a number", func(a impl.Algebra, i int64) (bool, int64) {
			b, code := impl.ChangeGenerator(a, i, formOf(term(1)))
			return isZeroAlgebra(b), code
		}},
		{"ScaleGenerator", func(a impl.Algebra, i int64) (bool, int64) {
			b, code := impl.ScaleGenerator(a, i, 1)
			return isZeroAlgebra(b), code
		}},
		{"ScaleGenerator by 0", func(a impl.Algebra, i int64) (bool, int64) {
			b, code := impl.ScaleGenerator(a, i, 0)
			return isZeroAlgebra(b), code
		}},
		{"DropGenerator", func(a impl.Algebra, i int64) (bool, int64) {
			b, code := impl.DropGenerator(a, i)
			return isZeroAlgebra(b), code
		}},
	}
}

func callOfSubAlgebra() degreeCall {
	return degreeCall{"SubAlgebra", func(a impl.Algebra, k int64) (bool, int64) {
		b, code := impl.SubAlgebra(a, k)
		return isZeroAlgebra(b), code
	}}
}

func callOfExchange(list []int64) degreeCall {
	return degreeCall{"ExchangeGenerators", func(a impl.Algebra, _ int64) (bool, int64) {
		b, code := impl.ExchangeGenerators(a, list)
		return isZeroAlgebra(b), code
	}}
}

func checkCode(t *testing.T, c degreeCall, a impl.Algebra, i int64, want int64) {
	t.Helper()
	if zero, code := c.call(a, i); code != want || code != impl.ErrNone && !zero {
		t.Errorf("%s(%v, %d): code %d, not %d; the zero value: %v", c.name, a, i, code, want, zero)
	}
}

// TestInvalidReductions has what is no algebra, with numbers and lists that are in no range.
func TestInvalidReductions(t *testing.T) {
	calls := slices.Concat(callsOfReductions(), callsOfGenerators(), []degreeCall{callOfSubAlgebra(), callOfExchange(nil), callOfExchange([]int64{0, 1}), callOfExchange([]int64{-1})})
	for _, a := range badAlgebras(t) {
		for _, c := range calls {
			for _, i := range []int64{0, 1, -1, 9, math.MinInt64, math.MaxInt64} {
				checkCode(t, c, a, i, impl.ErrInvalid)
			}
		}
	}
}

func TestInvalidChanges(t *testing.T) {
	a := algebra(t, "1:0;2:0")
	for _, i := range []int64{0, 1, -1, 2} {
		for _, f := range badForms() {
			if got, code := impl.ChangeGenerator(a, i, f); !isZeroAlgebra(got) || code != impl.ErrInvalid {
				t.Errorf("ChangeGenerator(%d, %v) = %v, %d", i, f, got, code)
			}
		}
	}
	// An exponent or a number of terms may be as great as there may be in a form, and no greater.
	b := algebra(t, "2:0;2:0;4:0")
	for _, c := range []struct {
		f    impl.Form
		want int64
	}{
		{formOf(term(1, 2)), impl.ErrNone},
		{formOf(term(1, 20)), impl.ErrState},
		{formOf(term(1, 0, 20)), impl.ErrState},
		{formOf(term(1, 21)), impl.ErrInvalid},
		{formOf(term(1, 0, 21)), impl.ErrInvalid},
		{grid(400, 1), impl.ErrState},
		{grid(401, 1), impl.ErrInvalid},
	} {
		if got, code := impl.ChangeGenerator(b, 2, c.f); code != c.want || code != impl.ErrNone && !isZeroAlgebra(got) {
			t.Errorf("ChangeGenerator by %d terms = %v, %d, not %d", len(c.f.Terms), got, code, c.want)
		}
	}
	// A form with a generator that there is not.
	if got, code := impl.ChangeGenerator(a, 1, formOf(term(1, 0, 0, 1))); !isZeroAlgebra(got) || code != impl.ErrInvalid {
		t.Errorf("ChangeGenerator by a form of another algebra = %v, %d", got, code)
	}
}

// TestRangesOfGenerators has the numbers next to those of the first and the last generator.
func TestRangesOfGenerators(t *testing.T) {
	for _, text := range append(minimalTexts(), "1:1*b;2:0", "1:0;2:1*ab") {
		a := algebra(t, text)
		count := int64(len(a.Degrees))
		for _, c := range callsOfGenerators() {
			for _, i := range []int64{-1, count, count + 1, 8, math.MinInt64, math.MaxInt64} {
				if i < 0 || i >= count {
					checkCode(t, c, a, i, impl.ErrRange)
				}
			}
		}
		for _, k := range []int64{-1, count + 1, 9, math.MinInt64, math.MaxInt64} {
			checkCode(t, callOfSubAlgebra(), a, k, impl.ErrRange)
		}
		checkCode(t, callOfSubAlgebra(), a, 0, impl.ErrNone)
		checkCode(t, callOfSubAlgebra(), a, count, impl.ErrNone)
	}
	for i := range int64(8) {
		a := algebra(t, eight)
		for _, c := range callsOfGenerators() {
			want := map[string]int64{"ScaleGenerator by 0": impl.ErrRange, "ChangeGenerator by a number": impl.ErrState}
			checkCode(t, c, a, i, want[c.name])
		}
	}
}

func TestRangesOfScales(t *testing.T) {
	for _, text := range []string{"2:0;3:1*a2", "5:0", "1:0;2:1*ab"} {
		a := algebra(t, text)
		for _, c := range []int64{0, -1, impl.FieldPrime, impl.FieldPrime + 1, -impl.FieldPrime, math.MinInt64, math.MaxInt64} {
			for i := range a.Degrees {
				if got, code := impl.ScaleGenerator(a, int64(i), c); !isZeroAlgebra(got) || code != impl.ErrRange {
					t.Errorf("ScaleGenerator(%q, %d, %d) = %v, %d", text, i, c, got, code)
				}
			}
		}
		for _, c := range []int64{1, 2, impl.FieldPrime - 2, impl.FieldPrime - 1} {
			scaledBy(t, a, 0, c)
		}
	}
}

func TestRangesOfLists(t *testing.T) {
	for _, c := range []struct {
		a     string
		lists [][]int64
	}{
		{"", [][]int64{{0}, {-1}, {1}}},
		{"5:0", [][]int64{nil, {}, {1}, {-1}, {0, 0}, {0, 1}, {math.MaxInt64}, {math.MinInt64}}},
		{"2:0;3:1*a2", [][]int64{nil, {0}, {1}, {0, 0}, {1, 1}, {0, 2}, {1, 2}, {-1, 0}, {0, -1}, {0, 1, 2}, {0, 1, 1}, {1, 0, 0}, {math.MinInt64, math.MaxInt64}}},
		{"1:0;1:0;1:1*ab", [][]int64{{0, 1}, {0, 1, 1}, {1, 2, 3}, {0, 1, 3}, {0, 2, 2}, {0, 1, 2, 0}, {0, 1, 2, 3}, {-3, 1, 2}}},
		{eight, [][]int64{{0, 1, 2, 3, 4, 5, 6}, {0, 1, 2, 3, 4, 5, 6, 6}, {0, 1, 2, 3, 4, 5, 6, 8}, {0, 1, 2, 3, 4, 5, 6, 7, 8}, {7, 6, 5, 4, 3, 2, 1, -1}, make([]int64, 8), make([]int64, 1000)}},
	} {
		for _, list := range c.lists {
			if got, code := impl.ExchangeGenerators(algebra(t, c.a), list); !isZeroAlgebra(got) || code != impl.ErrRange {
				t.Errorf("ExchangeGenerators(%q, %v) = %v, %d", c.a, list, got, code)
			}
		}
	}
}

// TestOrderOfErrorsOfChanges has forms that break more than one rule.
func TestOrderOfErrorsOfChanges(t *testing.T) {
	a := algebra(t, evens+";12:0;11:1*g")
	great := firstMonomials(a, 12, 0, 400, 1)
	own := formOf(append(slices.Clone(great.Terms[:399]), generator(6, 1).Terms...)...)
	for _, c := range []struct {
		i    int64
		f    impl.Form
		want int64
	}{
		{6, great, impl.ErrLimit},
		{6, own, impl.ErrState},
		{7, great, impl.ErrState},
		{8, great, impl.ErrRange},
		{-1, own, impl.ErrRange},
		{8, formOf(term(1, 21)), impl.ErrInvalid},
		{6, formOf(append(slices.Clone(great.Terms), generator(6, 1).Terms...)...), impl.ErrInvalid},
	} {
		if got, code := impl.ChangeGenerator(a, c.i, c.f); !isZeroAlgebra(got) || code != c.want {
			t.Errorf("ChangeGenerator(%d) by %d terms = %v, %d, not %d", c.i, len(c.f.Terms), got, code, c.want)
		}
	}
}

// TestAnyReduction calls everything with what is often invalid: nothing panics, and results beside errors are
// zero values.
func TestAnyReduction(t *testing.T) {
	r := rand.New(rand.NewSource(128))
	codes := map[int64]int{}
	for range 4000 {
		a := anyAlgebra(t, r)
		i := []int64{r.Int63n(10) - 1, math.MinInt64, math.MaxInt64}[min(2, r.Intn(20)/18)]
		m := anyMonomial(r)
		f := formOf(term(r.Int63n(3)-1, m[:]...))
		list := randomOrder(r, r.Intn(9))
		if len(list) > 0 && r.Intn(4) == 0 {
			list[0] = i
		}
		calls := slices.Concat(callsOfReductions(), callsOfGenerators(), []degreeCall{callOfSubAlgebra(), callOfExchange(list)}, []degreeCall{
			{"ChangeGenerator", func(a impl.Algebra, i int64) (bool, int64) {
				b, code := impl.ChangeGenerator(a, i, f)
				return isZeroAlgebra(b), code
			}},
			{"ScaleGenerator", func(a impl.Algebra, i int64) (bool, int64) {
				b, code := impl.ScaleGenerator(a, i, r.Int63n(20000)-5000)
				return isZeroAlgebra(b), code
			}},
		})
		for _, c := range calls {
			zero, code := c.call(a, i)
			if code < 0 || code > impl.ErrState || code != impl.ErrNone && !zero {
				t.Fatalf("%s(%v, %d): code %d; the zero value: %v", c.name, a, i, code, zero)
			}
			if !impl.IsAlgebra(a) && code != impl.ErrInvalid {
				t.Fatalf("%s(%v, %d): code %d", c.name, a, i, code)
			}
			codes[code]++
		}
	}
	for _, code := range []int64{impl.ErrNone, impl.ErrInvalid, impl.ErrRange, impl.ErrNotFound, impl.ErrState} {
		if codes[code] < 500 {
			t.Errorf("the code %d was met %d times", code, codes[code])
		}
	}
}
