package tests

import (
	"math/rand"
	"slices"
	"testing"

	"loop.example/g01219/impl"
)

// checkSortMemory calls SortGenerators, whose list and degrees must not share memory either.
func checkSortMemory(t *testing.T, a impl.Algebra, same func() bool) {
	t.Helper()
	checkAlgebraMemory(t, "SortGenerators", same, func() (impl.Algebra, int64) {
		b, _, code := impl.SortGenerators(a)
		return b, code
	})
	checkNumbersMemory(t, "SortGenerators", same, func() ([]int64, int64) {
		_, list, code := impl.SortGenerators(a)
		return list, code
	})
	b, list, _ := impl.SortGenerators(a)
	degrees := slices.Clone(b.Degrees)
	overwrite(list, 99)
	if !slices.Equal(b.Degrees, degrees) {
		t.Fatalf("the list of SortGenerators shares memory with the degrees")
	}
}

func TestReductionsKeepArguments(t *testing.T) {
	r := rand.New(rand.NewSource(129))
	for range 600 {
		a, same := guardedAlgebra(mixedAlgebra(t, r))
		checkNumbersMemory(t, "FirstPair", same, func() ([]int64, int64) { return impl.FirstPair(a) })
		checkFormsWithAlgebraMemory(t, "ContractPair", same, func() (impl.Algebra, []impl.Form, int64) { return impl.ContractPair(a) })
		checkFormsWithAlgebraMemory(t, "ReduceAlgebra", same, func() (impl.Algebra, []impl.Form, int64) { return impl.ReduceAlgebra(a) })
		checkSortMemory(t, a, same)
		if impl.IsContractible(a); !same() {
			t.Fatalf("IsContractible changes its argument")
		}
	}
}

func TestChangesKeepArguments(t *testing.T) {
	r := rand.New(rand.NewSource(130))
	for range 600 {
		a, sameA := guardedAlgebra(mixedAlgebra(t, r))
		i := r.Intn(len(a.Degrees))
		f, sameF := guardedForm(randomChange(r, a, i))
		list, sameList := guarded(randomOrder(r, len(a.Degrees)), 99)
		same := func() bool { return sameA() && sameF() && sameList() }
		for _, c := range []struct {
			name string
			call func() (impl.Algebra, int64)
		}{
			{"ChangeGenerator", func() (impl.Algebra, int64) { return impl.ChangeGenerator(a, int64(i), f) }},
			{"ChangeGenerator by 0", func() (impl.Algebra, int64) { return impl.ChangeGenerator(a, int64(i), impl.Form{}) }},
			{"ScaleGenerator", func() (impl.Algebra, int64) { return impl.ScaleGenerator(a, int64(i), 5) }},
			{"ScaleGenerator by 1", func() (impl.Algebra, int64) { return impl.ScaleGenerator(a, int64(i), 1) }},
			{"ExchangeGenerators", func() (impl.Algebra, int64) { return impl.ExchangeGenerators(a, list) }},
			{"DropGenerator", func() (impl.Algebra, int64) { return impl.DropGenerator(a, int64(i)) }},
			{"SubAlgebra", func() (impl.Algebra, int64) { return impl.SubAlgebra(a, int64(i)) }},
			{"SubAlgebra of all", func() (impl.Algebra, int64) { return impl.SubAlgebra(a, int64(len(a.Degrees))) }},
		} {
			checkAlgebraMemory(t, c.name, same, c.call)
		}
	}
}

// TestFailuresKeepReductions calls functions that end with an error, one of them on the way.
func TestFailuresKeepReductions(t *testing.T) {
	great := algebra(t, evens+";12:0;11:1*g")
	for _, wanted := range append(append(badAlgebras(t), goodAlgebras(t)...), great) {
		a, same := guardedAlgebra(wanted)
		list, sameList := guarded([]int64{7, 1, 0, 3}, 99)
		calls := slices.Concat(callsOfReductions(), callsOfGenerators(), []degreeCall{callOfSubAlgebra(), callOfExchange(list)})
		for _, f := range []impl.Form{formOf(term(1, 21), term(20000)), formOf(term(1, 1)), firstMonomials(great, 12, 0, 400, 3)} {
			g, sameG := guardedForm(f)
			for _, i := range []int64{-1, 0, 1, 6, 8} {
				impl.ChangeGenerator(a, i, g)
				for _, c := range calls {
					c.call(a, i)
				}
			}
			if !same() || !sameList() || !sameG() {
				t.Fatalf("a function that fails changes an argument with %v", wanted)
			}
		}
	}
}
