package tests

import (
	"math"
	"math/rand"
	"slices"
	"testing"

	"loop.example/g01219/impl"
)

// algebraCall calls a function that takes an algebra alone. It returns whether the result is the zero value.
type algebraCall struct {
	name string
	call func(a impl.Algebra) (bool, int64)
}

func callsOfAlgebras() []algebraCall {
	return []algebraCall{
		{"IsPure", func(a impl.Algebra) (bool, int64) {
			yes, code := impl.IsPure(a)
			return !yes, code
		}},
		{"EulerOfGenerators", func(a impl.Algebra) (bool, int64) {
			x, code := impl.EulerOfGenerators(a)
			return x == 0, code
		}},
		{"FormalDimension", func(a impl.Algebra) (bool, int64) {
			x, code := impl.FormalDimension(a)
			return x == 0, code
		}},
	}
}

func callOfLoopSeries() degreeCall {
	return degreeCall{"LoopSeries", func(a impl.Algebra, m int64) (bool, int64) {
		x, code := impl.LoopSeries(a, m)
		return len(x) == 0, code
	}}
}

func callOfEulerUpTo() degreeCall {
	return degreeCall{"EulerUpTo", func(a impl.Algebra, m int64) (bool, int64) {
		x, code := impl.EulerUpTo(a, m)
		return x == 0, code
	}}
}

// callOfFreeSeries takes the degrees of an algebra.
func callOfFreeSeries() degreeCall {
	return degreeCall{"FreeSeries", func(a impl.Algebra, m int64) (bool, int64) {
		x, code := impl.FreeSeries(a.Degrees, m)
		return len(x) == 0, code
	}}
}

func TestInvalidSpaces(t *testing.T) {
	for _, a := range badAlgebras(t) {
		for _, c := range callsOfAlgebras() {
			if zero, code := c.call(a); !zero || code != impl.ErrInvalid {
				t.Errorf("%s(%v): code %d", c.name, a, code)
			}
		}
		for _, m := range []int64{0, 5, 20, 40, -1, 21, 41, math.MinInt64, math.MaxInt64} {
			checkCode(t, callOfLoopSeries(), a, m, impl.ErrInvalid)
			checkCode(t, callOfEulerUpTo(), a, m, impl.ErrInvalid)
		}
	}
	for _, degrees := range badDegrees() {
		for _, m := range []int64{0, 5, 40, -1, 41, math.MinInt64, math.MaxInt64} {
			checkCode(t, callOfFreeSeries(), impl.Algebra{Degrees: degrees}, m, impl.ErrInvalid)
		}
	}
}

// TestRangesOfSeries meets the range 0..40, and exceeds it by one, also where a generator has the degree 1.
func TestRangesOfSeries(t *testing.T) {
	for _, a := range goodAlgebras(t) {
		state := slices.Contains(a.Degrees, 1)
		for _, m := range []int64{-1, 41, 42, math.MinInt64, math.MaxInt64, math.MinInt64 + 40, math.MaxInt64 - 1} {
			checkCode(t, callOfFreeSeries(), a, m, impl.ErrRange)
			checkCode(t, callOfLoopSeries(), a, m, impl.ErrRange)
		}
		for _, m := range []int64{0, 1, 20, 21, 39, 40} {
			if x, code := impl.FreeSeries(a.Degrees, m); code != impl.ErrNone || int64(len(x)) != m+1 || x[0] != 1 {
				t.Errorf("FreeSeries(%v, %d) = %v, %d", a.Degrees, m, x, code)
			}
			x, code := impl.LoopSeries(a, m)
			if state && (code != impl.ErrState || len(x) != 0) {
				t.Errorf("LoopSeries(%v, %d) = %v, %d", a, m, x, code)
			}
			if !state && (code != impl.ErrNone || int64(len(x)) != m+1 || x[0] != 1) {
				t.Errorf("LoopSeries(%v, %d) = %v, %d", a, m, x, code)
			}
		}
	}
}

// TestStatesOfLoopSeries has a single generator of the degree 1, at each place.
func TestStatesOfLoopSeries(t *testing.T) {
	for i := range impl.MaxGenerators {
		degrees := []int64{2, 3, 4, 5, 6, 7, 8, 12}
		degrees[i] = 1
		for count := i + 1; count <= len(degrees); count++ {
			a, _ := impl.FreeAlgebra(degrees[:count])
			checkCode(t, callOfLoopSeries(), a, 0, impl.ErrState)
			checkCode(t, callOfLoopSeries(), a, 40, impl.ErrState)
			checkCode(t, callOfLoopSeries(), a, 41, impl.ErrRange)
			checkCode(t, callOfLoopSeries(), a, -1, impl.ErrRange)
		}
	}
}

// TestRangesOfEulerUpTo meets MaxAsked, and exceeds it by one, also where there are too many monomials.
func TestRangesOfEulerUpTo(t *testing.T) {
	texts := []string{"", "1:0", "2:0;3:1*a2", eight}
	for _, c := range crowded() {
		texts = append(texts, c.text)
	}
	for _, text := range texts {
		a := algebra(t, text)
		for _, m := range []int64{-1, 21, 22, 40, 41, math.MinInt64, math.MaxInt64} {
			checkCode(t, callOfEulerUpTo(), a, m, impl.ErrRange)
		}
	}
	for _, s := range madeSpaces() {
		for _, m := range []int64{0, impl.MaxAsked} {
			if x, code := impl.EulerUpTo(s.algebra(t), m); code != impl.ErrNone || m == 0 && x != 1 {
				t.Errorf("EulerUpTo of %s and %d = %d, %d", s.name, m, x, code)
			}
		}
	}
}

// TestLimitsOfEulerUpTo exceeds MaxSide by one in a single degree, and compares the codes with those of BettiNumbers.
func TestLimitsOfEulerUpTo(t *testing.T) {
	for _, c := range crowded() {
		a := algebra(t, c.text)
		for m := range int64(impl.MaxAsked + 1) {
			x, code := impl.EulerUpTo(a, m)
			_, other := impl.BettiNumbers(a, m)
			if beyond := m >= c.peak-1; code != other || beyond && (x != 0 || code != impl.ErrLimit) || !beyond && code != impl.ErrNone {
				t.Errorf("EulerUpTo(%q, %d) = %d, %d", c.text, m, x, code)
			}
		}
	}
	a := algebra(t, eight) // 120 monomials of the degree 6, 330 of the degree 8
	if x, code := impl.EulerUpTo(a, 6); x != 1+8+36+120 || code != impl.ErrNone {
		t.Errorf("EulerUpTo(6) = %d, %d", x, code)
	}
	checkCode(t, callOfEulerUpTo(), a, 7, impl.ErrLimit)
	checkCode(t, callOfEulerUpTo(), a, 20, impl.ErrLimit)
	// No other function has a limit of this kind.
	if x, code := impl.LoopSeries(a, 40); len(x) != 41 || x[8] != 1 || x[9] != 0 || code != impl.ErrNone {
		t.Errorf("LoopSeries(40) = %v, %d", x, code)
	}
}

// TestAnySpace calls everything with what is often invalid: nothing panics, and results beside errors are zero values.
func TestAnySpace(t *testing.T) {
	r := rand.New(rand.NewSource(167))
	codes := map[int64]int{}
	for range 3000 {
		a := anyAlgebra(t, r)
		good := impl.IsAlgebra(a)
		for _, c := range callsOfAlgebras() {
			zero, code := c.call(a)
			if (code == impl.ErrInvalid) == good || code != impl.ErrNone && (!zero || code != impl.ErrInvalid) {
				t.Fatalf("%s(%v): code %d", c.name, a, code)
			}
		}
		m := []int64{r.Int63n(50) - 4, math.MinInt64, math.MaxInt64}[min(2, r.Intn(10)/8)]
		for _, c := range []degreeCall{callOfLoopSeries(), callOfEulerUpTo(), callOfFreeSeries()} {
			zero, code := c.call(a, m)
			if code < 0 || code > impl.ErrState || code != impl.ErrNone && !zero {
				t.Fatalf("%s(%v, %d): code %d", c.name, a, m, code)
			}
			if c.name != "FreeSeries" && (code == impl.ErrInvalid) == good {
				t.Fatalf("%s(%v, %d): code %d", c.name, a, m, code)
			}
			codes[code]++
		}
		for _, call := range []func(n int64) (impl.Algebra, int64){
			impl.SphereModel, impl.UnitaryModel, impl.TorusModel, impl.HeisenbergModel, projectiveOf(2), projectiveOf(4), projectiveOf(r.Int63n(8) - 2),
		} {
			if b, code := call(m); code != impl.ErrNone && (code != impl.ErrRange || !isZeroAlgebra(b)) || code == impl.ErrNone && !impl.IsAlgebra(b) {
				t.Fatalf("a space of %d is %v, %d", m, b, code)
			}
		}
	}
	for _, code := range []int64{impl.ErrNone, impl.ErrInvalid, impl.ErrRange, impl.ErrLimit, impl.ErrState} {
		if codes[code] < 10 {
			t.Errorf("the code %d was met %d times", code, codes[code])
		}
	}
}
