package tests

import (
	"math/rand"
	"slices"
	"testing"

	"loop.example/g01219/impl"
)

// searchCase has an algebra with the list at which the search ends, which is empty if it does not. The degree of its
// triple product is least; all up to MaxTriple, if there is none.
type searchCase struct {
	algebra string
	least   int64
	want    []int64
}

func searchCases() []searchCase {
	return []searchCase{
		{heisenberg, 2, []int64{1, 0, 1, 0, 1, 1}},
		{heisenberg + ";1:0", 2, []int64{1, 0, 1, 0, 1, 1}},
		{"1:0;1:0;1:0;1:1*bc", 2, []int64{1, 1, 1, 1, 1, 2}},
		{"1:0;1:0;1:0;1:0;1:1*ab+1*cd", 3, []int64{1, 0, 1, 0, 2, 2}},
		{"1:0;2:0;2:1*ab", 3, []int64{1, 0, 1, 0, 2, 0}},
		{"1:0;4:0;4:1*ab", 5, []int64{1, 0, 1, 0, 4, 0}},
		{evenThird, 7, []int64{2, 0, 3, 0, 3, 0}},
		{twoSquares, 5, []int64{2, 0, 2, 0, 2, 1}},
		{"3:0;2:0;2:0;3:1*b2;3:1*bc;3:1*c2", 5, []int64{2, 0, 2, 0, 2, 1}},
		{"3:0;5:0;7:1*ab", 10, []int64{3, 0, 3, 0, 5, 0}},
		{"5:0;5:0;9:1*ab", 14, []int64{5, 0, 5, 0, 5, 1}},
		{"", 14, nil},
		{"1:0", 14, nil},
		{"2:0", 14, nil},
		{"2:0;3:1*a2", 14, nil},
		{"2:0;5:1*a3;7:0", 14, nil},
		{"1:0;1:0;1:0;1:0;1:0;1:0;1:0;1:0", 14, nil},
		{"2:0;3:1*a2;2:0;3:1*c2;1:0", 14, nil},
		{"3:0;3:0;5:0", 14, nil},
		{"1:1*b;2:0", 14, nil},
		{"1:1*bc;1:1*ac;1:1*ab", 14, nil},
		{"5:0;6:0;10:1*ab", 14, nil},
	}
}

func TestFirstTriple(t *testing.T) {
	for _, c := range searchCases() {
		a := algebra(t, c.algebra)
		for m := range int64(impl.MaxTriple + 1) {
			got, code := impl.FirstTriple(a, m)
			if c.want == nil || m < c.least {
				if len(got) != 0 || code != impl.ErrNotFound {
					t.Errorf("FirstTriple(%q, %d) = %v, %d", c.algebra, m, got, code)
				}
			} else if code != impl.ErrNone || m == c.least && !slices.Equal(got, c.want) {
				t.Errorf("FirstTriple(%q, %d) = %v, %d", c.algebra, m, got, code)
			}
		}
	}
}

// indexed is a class form with its degree and its number.
type indexed struct {
	n, i int64
	form impl.Form
}

// firstTripleByWords returns the first list in lexicographic order whose triple product is not 0, and how many lists
// with triple products come ahead of it.
func firstTripleByWords(t *testing.T, a impl.Algebra, m int64) ([]int64, int) {
	t.Helper()
	var all []indexed
	for n := int64(1); n <= m; n++ {
		for i, f := range classForms(t, a, n) {
			all = append(all, indexed{n, int64(i), f})
		}
	}
	count := 0
	for _, x := range all {
		for _, y := range all {
			for _, z := range all {
				if x.n+y.n+z.n-1 > m {
					continue
				}
				class, code := impl.TripleClass(a, x.form, y.form, z.form)
				if code == impl.ErrNone && !isZeroList(class) {
					return []int64{x.n, x.i, y.n, y.i, z.n, z.i}, count
				}
				if code == impl.ErrNone {
					count++
				}
			}
		}
	}
	return nil, count
}

func TestFirstTripleByWords(t *testing.T) {
	r := rand.New(rand.NewSource(143))
	firsts, laters, nones := 0, 0, 0
	for range 1500 {
		a := richAlgebra(t, r)
		switch r.Intn(6) {
		case 0:
			a = smallAlgebra(t, r, 9, 20)
		case 1:
			a = dualAlgebra(t, r, 9, 20)
		}
		m := r.Int63n(10)
		want, count := firstTripleByWords(t, a, m)
		got, code := impl.FirstTriple(a, m)
		if !slices.Equal(got, want) || (code == impl.ErrNone) != (want != nil) || code != impl.ErrNone && code != impl.ErrNotFound {
			t.Fatalf("FirstTriple(%v, %d) = %v, %d, not %v", a, m, got, code, want)
		}
		switch {
		case want == nil && count > 0:
			nones++
		case want != nil && count > 3:
			laters++
		case want != nil:
			firsts++
		}
	}
	if firsts < 20 || laters < 20 || nones < 20 {
		t.Errorf("%d searches end soon, %d later, and %d not at all", firsts, laters, nones)
	}
}

// TestFirstTripleIsTold asks for the triple product at which a search ends.
func TestFirstTripleIsTold(t *testing.T) {
	for _, c := range searchCases() {
		if c.want == nil {
			continue
		}
		a := algebra(t, c.algebra)
		list, _ := impl.FirstTriple(a, c.least)
		if len(list) != 6 {
			t.Fatalf("FirstTriple(%q, %d) = %v", c.algebra, c.least, list)
		}
		var forms [3]impl.Form
		for k := range forms {
			forms[k] = classForms(t, a, list[2*k])[list[2*k+1]]
		}
		found := checkTriple(t, triad{a, forms[0], forms[1], forms[2]})
		if found.code != impl.ErrNone || isZeroList(found.class) {
			t.Errorf("%q: the triple product at which the search ends is %v", c.algebra, found)
		}
	}
}

// TestGreatSearches goes through all triple products of algebras with many class forms; some have millions of them.
func TestGreatSearches(t *testing.T) {
	for _, c := range []struct {
		algebra string
		m       int64
		want    []int64
	}{
		{"1:0;1:0;1:0;1:0;1:0;1:0;1:0;2:0", 14, nil},
		{"1:0;1:0;1:0;1:0;1:0;1:0;2:0;3:1*g2", 14, nil},
		{"2:0;3:1*a2;1:0;1:0;1:0;1:0;1:0;1:0", 14, nil},
		{"1:0;1:0;1:0;1:0;2:0;2:0;3:1*e2;3:1*f2", 9, nil},
		{"1:0;1:0;1:0;1:0;2:0;2:0;3:1*e2;3:1*ef", 9, []int64{2, 6, 2, 6, 2, 7}},
		{"1:0;1:0;1:0;1:0;1:0;1:0;1:1*ab+1*cd+1*ef;2:0", 14, []int64{1, 0, 1, 0, 3, 6}},
		{"4:0;4:0;4:0;4:0;4:0;4:0;4:0;4:0", 14, nil},
		{"2:0;2:0;2:0;2:0;11:1*a6", 12, nil},
	} {
		code := int64(impl.ErrNotFound)
		if c.want != nil {
			code = impl.ErrNone
		}
		for range 2 {
			if got, other := impl.FirstTriple(algebra(t, c.algebra), c.m); !slices.Equal(got, c.want) || other != code {
				t.Errorf("FirstTriple(%q, %d) = %v, %d", c.algebra, c.m, got, other)
			}
		}
	}
}
