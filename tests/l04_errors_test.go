package tests

import (
	"math"
	"math/rand"
	"testing"

	"loop.example/g01219/impl"
)

// mapCall calls a function that takes a map. It returns whether the result is the zero value.
type mapCall struct {
	name string
	call func(x mapping, n int64) (bool, int64)
}

// callsOfMatrices has the functions that look at one degree and its neighbours.
func callsOfMatrices() []mapCall {
	return []mapCall{
		{"MapMatrix", func(x mapping, n int64) (bool, int64) {
			matrix, code := impl.MapMatrix(x.a, x.b, x.m, n)
			return len(matrix) == 0, code
		}},
		{"MapRank", func(x mapping, n int64) (bool, int64) {
			rank, code := impl.MapRank(x.a, x.b, x.m, n)
			return rank == 0, code
		}},
	}
}

func callOfIsomorphic() mapCall {
	return mapCall{"IsIsomorphicTo", func(x mapping, n int64) (bool, int64) {
		yes, code := impl.IsIsomorphicTo(x.a, x.b, x.m, n)
		return !yes, code
	}}
}

func callsOfDegrees() []mapCall {
	return append(callsOfMatrices(), callOfIsomorphic())
}

// callsOfMaps has the functions that ask for no degree, too.
func callsOfMaps() []mapCall {
	return append(callsOfDegrees(),
		mapCall{"ApplyMap", func(x mapping, _ int64) (bool, int64) {
			f, code := impl.ApplyMap(x.a, x.b, x.m, formOf(term(1)))
			return len(f.Terms) == 0, code
		}},
		mapCall{"ComposeMaps with the map first", func(x mapping, _ int64) (bool, int64) {
			forms, code := impl.ComposeMaps(x.a, x.b, impl.Algebra{}, x.m, make([]impl.Form, len(x.b.Degrees)))
			return len(forms) == 0, code
		}},
		mapCall{"ComposeMaps with the map behind", func(x mapping, _ int64) (bool, int64) {
			forms, code := impl.ComposeMaps(impl.Algebra{}, x.a, x.b, nil, x.m)
			return len(forms) == 0, code
		}},
		mapCall{"LinearTableOfMap", func(x mapping, _ int64) (bool, int64) {
			table, code := impl.LinearTableOfMap(x.a, x.b, x.m)
			return len(table) == 0, code
		}},
	)
}

// invalidMappings returns lists that are no maps, and maps with what is no algebra or no form.
func invalidMappings(t *testing.T) []mapping {
	t.Helper()
	return append(mappingsOf(t, badMaps()), mappingsOfBadParts(t)...)
}

// mappingsOfBadParts returns lists with what is no algebra or no form.
func mappingsOfBadParts(t *testing.T) []mapping {
	t.Helper()
	var list []mapping
	sphere, mixed := algebra(t, "2:0;3:1*a2"), algebra(t, "1:0;2:0")
	for _, bad := range badAlgebras(t) {
		zeros := make([]impl.Form, len(bad.Degrees))
		list = append(list, mapping{bad, bad, zeros}, mapping{bad, impl.Algebra{}, zeros}, mapping{impl.Algebra{}, bad, nil})
		list = append(list, mapping{bad, sphere, zeros}, mapping{sphere, bad, make([]impl.Form, 2)})
	}
	for _, f := range badForms() {
		list = append(list, mapping{mixed, mixed, []impl.Form{f, {}}}, mapping{mixed, mixed, []impl.Form{{}, f}})
	}
	return list
}

func TestInvalidMaps(t *testing.T) {
	for _, x := range invalidMappings(t) {
		for _, c := range callsOfMaps() {
			for _, n := range []int64{0, 2, 20, -1, 21, math.MinInt64, math.MaxInt64} {
				if zero, code := c.call(x, n); !zero || code != impl.ErrInvalid {
					t.Errorf("%s(%v, %d): code %d", c.name, x, n, code)
				}
			}
		}
	}
}

func TestInvalidFormsOfMaps(t *testing.T) {
	a := algebra(t, "1:0;2:0")
	for _, f := range badForms() {
		if got, code := impl.ApplyMap(a, a, identityForms(a), f); len(got.Terms) != 0 || code != impl.ErrInvalid {
			t.Errorf("ApplyMap(%v) = %v, %d", f, got, code)
		}
		if got, code := impl.ApplyMap(a, impl.Algebra{}, make([]impl.Form, 2), f); len(got.Terms) != 0 || code != impl.ErrInvalid {
			t.Errorf("ApplyMap(%v) = %v, %d", f, got, code)
		}
	}
	evens := algebra(t, "2:0;2:0")
	if got, code := impl.ApplyMap(evens, evens, identityForms(evens), grid(401, 1)); len(got.Terms) != 0 || code != impl.ErrInvalid {
		t.Errorf("ApplyMap to 401 terms = %v, %d", got, code)
	}
	// A form of b that is none of a.
	if got, code := impl.ApplyMap(algebra(t, "2:0"), evens, []impl.Form{{}}, formOf(term(1, 0, 1))); len(got.Terms) != 0 || code != impl.ErrInvalid {
		t.Errorf("ApplyMap to a form of b = %v, %d", got, code)
	}
}

func TestInvalidAlgebrasOfMakers(t *testing.T) {
	good := algebra(t, "2:0;3:1*a2")
	ones := algebra(t, "1:0;1:0;1:0;1:0;1:0;1:0;1:0;1:0")
	for _, bad := range badAlgebras(t) {
		if got, code := impl.IdentityMap(bad); len(got) != 0 || code != impl.ErrInvalid {
			t.Errorf("IdentityMap(%v) = %v, %d", bad, got, code)
		}
		for _, other := range []impl.Algebra{{}, good, ones, bad} {
			for _, second := range []bool{false, true} {
				for _, pair := range [][2]impl.Algebra{{bad, other}, {other, bad}} {
					if got, code := impl.InclusionOf(pair[0], pair[1], second); len(got) != 0 || code != impl.ErrInvalid {
						t.Errorf("InclusionOf(%v, %v) = %v, %d", pair, second, got, code)
					}
					if got, code := impl.ProjectionOf(pair[0], pair[1], second); len(got) != 0 || code != impl.ErrInvalid {
						t.Errorf("ProjectionOf(%v, %v) = %v, %d", pair, second, got, code)
					}
				}
			}
		}
	}
}

// TestInvalidCompositions has a second map that does not begin where the first one ends, and one of two
// maps that is none, with the other one beyond the limits.
func TestInvalidCompositions(t *testing.T) {
	sphere, line := algebra(t, "2:0;3:1*a2"), algebra(t, "2:0")
	if got, code := impl.ComposeMaps(line, sphere, line, []impl.Form{generator(0, 1)}, []impl.Form{generator(0, 1)}); len(got) != 0 || code != impl.ErrInvalid {
		t.Errorf("ComposeMaps with a map that is too short = %v, %d", got, code)
	}
	if got, code := impl.ComposeMaps(line, line, sphere, []impl.Form{generator(0, 1)}, []impl.Form{generator(0, 1), generator(1, 1)}); len(got) != 0 || code != impl.ErrInvalid {
		t.Errorf("ComposeMaps with a map that is too long = %v, %d", got, code)
	}
	x := mapCase{"12:0;3:0", "2:0", []string{"1*a6", "0"}}.mapping(t)
	y := mapCase{"2:0", eight, []string{sumOfEight}}.mapping(t)
	if got, code := impl.ComposeMaps(x.a, x.b, y.b, x.m, y.m); len(got) != 0 || code != impl.ErrLimit {
		t.Errorf("ComposeMaps with 1716 terms = %v, %d", got, code)
	}
	if got, code := impl.ComposeMaps(x.a, x.b, y.b, []impl.Form{x.m[0], x.m[0]}, y.m); len(got) != 0 || code != impl.ErrInvalid {
		t.Errorf("ComposeMaps with a list that is no map = %v, %d", got, code)
	}
}

// zeroMaps returns the maps from an algebra and to it whose forms are 0, so that only this algebra has
// many monomials.
func zeroMaps(a impl.Algebra) []mapping {
	return []mapping{{a, impl.Algebra{}, make([]impl.Form, len(a.Degrees))}, {impl.Algebra{}, a, nil}}
}

func TestRangesOfMatrices(t *testing.T) {
	list := mappingsOf(t, goodMaps())
	for _, c := range crowded() {
		list = append(list, zeroMaps(algebra(t, c.text))...)
	}
	for _, x := range list {
		for _, c := range callsOfDegrees() {
			for _, n := range []int64{-1, 21, 22, 40, math.MinInt64, math.MaxInt64} {
				if zero, code := c.call(x, n); !zero || code != impl.ErrRange {
					t.Errorf("%s(%v, %d): code %d", c.name, x, n, code)
				}
			}
		}
	}
	x := mapCase{"2:0;3:1*a2", "2:0;3:1*a2", []string{"3*a", "9*b"}}.mapping(t)
	for _, c := range callsOfDegrees() {
		for _, n := range []int64{0, 20} {
			if _, code := c.call(x, n); code != impl.ErrNone {
				t.Errorf("%s(%v, %d): code %d", c.name, x, n, code)
			}
		}
	}
}

// TestLimitsOfMatrices exceeds MaxSide by one in a single degree, in a or in b.
func TestLimitsOfMatrices(t *testing.T) {
	for _, crowd := range crowded() {
		a := algebra(t, crowd.text)
		checkPeak(t, a, crowd.peak)
		for _, x := range append(zeroMaps(a), mapping{a, a, identityForms(a)}) {
			for n := range int64(impl.MaxAsked + 1) {
				for _, c := range callsOfMatrices() {
					zero, code := c.call(x, n)
					if near := n >= crowd.peak-1 && n <= crowd.peak+1; near && (!zero || code != impl.ErrLimit) || !near && code != impl.ErrNone {
						t.Errorf("%s(%v, %d): code %d", c.name, x, n, code)
					}
				}
				c := callOfIsomorphic()
				zero, code := c.call(x, n)
				if beyond := n >= crowd.peak-1; beyond && (!zero || code != impl.ErrLimit) || !beyond && code != impl.ErrNone {
					t.Errorf("%s(%v, %d): code %d", c.name, x, n, code)
				}
			}
		}
	}
}

// TestLimitsOfMatricesThatAreMet has 120 monomials of one or more degrees, and never more up to 21.
func TestLimitsOfMatricesThatAreMet(t *testing.T) {
	for _, text := range []string{
		"1:0;3:1*f;3:1*g+1*h;3:0;3:0;4:0;4:0;4:0",
		"6:0;6:0;6:0;6:0;6:0;6:0;6:0;6:0",
		"1:0;2:1*ac;2:0;2:0;6:0",
	} {
		a := algebra(t, text)
		if most := mostMonomials(a, 21); most != 120 {
			t.Fatalf("%q has up to %d monomials of one degree", text, most)
		}
		for _, x := range append(zeroMaps(a), mapping{a, a, identityForms(a)}) {
			for n := range int64(impl.MaxAsked + 1) {
				for _, c := range callsOfMatrices() {
					if _, code := c.call(x, n); code != impl.ErrNone {
						t.Errorf("%s(%v, %d): code %d", c.name, x, n, code)
					}
				}
			}
			if _, code := impl.IsIsomorphicTo(x.a, x.b, x.m, impl.MaxAsked); code != impl.ErrNone {
				t.Errorf("IsIsomorphicTo(%v, 20): code %d", x, code)
			}
		}
	}
}

// TestLimitsOfLowerDegreesOfMaps has 132 monomials of the degree 16, and fewer than 120 of the degrees
// 17 to 19: matrices look at the neighbours of their degree alone.
func TestLimitsOfLowerDegreesOfMaps(t *testing.T) {
	for _, x := range zeroMaps(algebra(t, "4:0;4:0;4:0;4:0;4:0;4:0;6:0")) {
		for n, want := range map[int64][2]int64{
			14: {impl.ErrNone, impl.ErrNone}, 15: {impl.ErrLimit, impl.ErrLimit}, 18: {impl.ErrNone, impl.ErrLimit},
		} {
			for _, c := range callsOfMatrices() {
				if _, code := c.call(x, n); code != want[0] {
					t.Errorf("%s(%v, %d): code %d", c.name, x, n, code)
				}
			}
			if _, code := impl.IsIsomorphicTo(x.a, x.b, x.m, n); code != want[1] {
				t.Errorf("IsIsomorphicTo(%v, %d): code %d", x, n, code)
			}
		}
	}
}

// TestAnyMap calls everything with what is often invalid: nothing panics, and results beside errors are
// zero values.
func TestAnyMap(t *testing.T) {
	r := rand.New(rand.NewSource(89))
	codes := map[int64]int{}
	for range 2000 {
		x := anyMapping(t, r, anyAlgebra(t, r), anyAlgebra(t, r))
		n := []int64{r.Int63n(25) - 2, math.MinInt64, math.MaxInt64}[min(2, r.Intn(10)/8)]
		for _, c := range callsOfMaps() {
			zero, code := c.call(x, n)
			if code < 0 || code > impl.ErrLimit || code != impl.ErrNone && !zero || (code == impl.ErrInvalid) == impl.IsMap(x.a, x.b, x.m) {
				t.Fatalf("%s(%v, %d): code %d", c.name, x, n, code)
			}
			codes[code]++
		}
		m := anyMonomial(r)
		impl.ApplyMap(x.a, x.b, x.m, formOf(term(1, m[:]...)))
		impl.ComposeMaps(x.a, x.b, x.a, x.m, x.m)
		impl.GradingMap(x.a, []int64{n, n}, n)
		impl.InclusionOf(x.a, x.b, r.Intn(2) == 0)
		impl.ProjectionOf(x.a, x.b, r.Intn(2) == 0)
		impl.IdentityMap(x.a)
	}
	for _, code := range []int64{impl.ErrNone, impl.ErrInvalid, impl.ErrRange, impl.ErrLimit} {
		if codes[code] < 20 {
			t.Errorf("the code %d was met %d times", code, codes[code])
		}
	}
}
