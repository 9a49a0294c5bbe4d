package tests

import (
	"math/rand"
	"slices"
	"testing"

	"loop.example/g01219/impl"
)

// parse returns the form with a text.
func parse(t *testing.T, degrees []int64, text string) impl.Form {
	t.Helper()
	f, code := impl.ParseForm(degrees, text)
	if code != impl.ErrNone {
		t.Fatalf("ParseForm(%v, %q): code %d", degrees, text, code)
	}
	return f
}

func sameForms(f, g impl.Form) bool {
	return slices.Equal(f.Terms, g.Terms)
}

// formOf returns the form with terms, without asking whether it is one.
func formOf(terms ...impl.Term) impl.Form {
	return impl.Form{Terms: terms}
}

func term(factor int64, exponents ...byte) impl.Term {
	t := impl.Term{Factor: factor}
	copy(t.Monomial[:], exponents)
	return t
}

// grid returns the first count of the 441 monomials of two even generators, in order, each with a
// factor.
func grid(count int, factor int64) impl.Form {
	var f impl.Form
	for i := range count {
		f.Terms = append(f.Terms, term(factor, byte(20-i/21), byte(20-i%21)))
	}
	return f
}

// randomDegrees returns up to eight degrees.
func randomDegrees(r *rand.Rand) []int64 {
	degrees := make([]int64, r.Intn(impl.MaxGenerators+1))
	for i := range degrees {
		degrees[i] = 1 + r.Int63n(impl.MaxWeight)
	}
	return degrees
}

// randomForm returns a form with at most count terms and exponents of at most top. Half of the
// factors are next to 0, so that sums cancel often.
func randomForm(r *rand.Rand, degrees []int64, count int, top int) impl.Form {
	sum := map[impl.Monomial]int64{}
	for range r.Intn(count + 1) {
		var m impl.Monomial
		for i, n := range degrees {
			m[i] = byte(r.Intn(top + 1))
			if n%2 == 1 {
				m[i] %= 2
			}
		}
		sum[m] = []int64{1, impl.FieldPrime - 1, 1 + r.Int63n(impl.FieldPrime-1), 2}[r.Intn(4)]
	}
	return formOfSum(sum)
}

// formOfSum returns the form with the factors of a sum as remainders.
func formOfSum(sum map[impl.Monomial]int64) impl.Form {
	var f impl.Form
	for m, factor := range sum {
		if factor %= impl.FieldPrime; factor < 0 {
			factor += impl.FieldPrime
		}
		if factor != 0 {
			f.Terms = append(f.Terms, impl.Term{Monomial: m, Factor: factor})
		}
	}
	slices.SortFunc(f.Terms, func(s, t impl.Term) int {
		for i := range s.Monomial {
			if s.Monomial[i] != t.Monomial[i] {
				return int(t.Monomial[i]) - int(s.Monomial[i])
			}
		}
		return 0
	})
	return f
}

// guarded returns a copy of a list with spare capacity, and a function that reports whether the
// copy and its spare capacity are as they were.
func guarded[T comparable](list []T, filler T) ([]T, func() bool) {
	memory := append(slices.Clone(list), filler, filler, filler)
	before := slices.Clone(memory)
	return memory[:len(list)], func() bool { return slices.Equal(memory, before) }
}

// overwrite fills a list and its spare capacity.
func overwrite[T any](list []T, filler T) {
	list = list[:cap(list)]
	for i := range list {
		list[i] = filler
	}
}
