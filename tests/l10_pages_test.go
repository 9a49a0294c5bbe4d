package tests

import (
	"math/rand"
	"slices"
	"testing"

	"loop.example/g01219/impl"
)

func pageDimension(t *testing.T, a impl.Algebra, r, p, n int64) int64 {
	t.Helper()
	k, code := impl.PageDimension(a, r, p, n)
	if code != impl.ErrNone {
		t.Fatalf("PageDimension(%v, %d, %d, %d): code %d", a, r, p, n, code)
	}
	return k
}

func pageRow(t *testing.T, a impl.Algebra, r, n int64) []int64 {
	t.Helper()
	row, code := impl.PageRow(a, r, n)
	if code != impl.ErrNone {
		t.Fatalf("PageRow(%v, %d, %d): code %d", a, r, n, code)
	}
	return row
}

func stopOf(t *testing.T, a impl.Algebra, n int64) int64 {
	t.Helper()
	k, code := impl.PagesStopAt(a, n)
	if code != impl.ErrNone {
		t.Fatalf("PagesStopAt(%v, %d): code %d", a, n, code)
	}
	return k
}

// knownPages has rows of pages from 0 on: the last one is that at which the pages of the degree stop.
func knownPages() []struct {
	text string
	n    int64
	rows [][]int64
} {
	const both = "2:0;4:0;5:1*a3+1*ab;5:1*ab"
	return []struct {
		text string
		n    int64
		rows [][]int64
	}{
		{"", 0, [][]int64{{1}}},
		{"", 1, [][]int64{{0}}},
		{"", 20, [][]int64{{0}}},
		{"2:0;3:1*a2", 0, [][]int64{{1}}},
		{"2:0;3:1*a2", 1, [][]int64{{0}}},
		{"2:0;3:1*a2", 2, [][]int64{{0, 1}}},
		{"2:0;3:1*a2", 3, [][]int64{{0, 1}, {0, 1}, {0, 0}}},
		{"2:0;3:1*a2", 4, [][]int64{{0, 0, 1}, {0, 0, 1}, {0, 0, 0}}},
		{"2:0;3:1*a2", 5, [][]int64{{0, 0, 1}, {0, 0, 1}, {0, 0, 0}}},
		{"1:0;1:0;1:0", 2, [][]int64{{0, 0, 3}}},
		{"1:0;1:0;1:1*ab", 1, [][]int64{{0, 3}, {0, 3}, {0, 2}}},
		{"1:0;1:0;1:1*ab", 2, [][]int64{{0, 0, 3}, {0, 0, 3}, {0, 0, 2}}},
		{"1:0;1:0;1:1*ab", 3, [][]int64{{0, 0, 0, 1}}},
		{"2:0;5:1*a3", 4, [][]int64{{0, 0, 1}}},
		{"2:0;5:1*a3", 5, [][]int64{{0, 1}, {0, 1}, {0, 1}, {0, 0}}},
		{"2:0;5:1*a3", 6, [][]int64{{0, 0, 0, 1}, {0, 0, 0, 1}, {0, 0, 0, 1}, {0, 0, 0, 0}}},
		{"2:0;11:3*a6", 11, [][]int64{{0, 1}, {0, 1}, {0, 1}, {0, 1}, {0, 1}, {0, 1}, {0, 0}}},
		{"2:0;11:3*a6", 10, [][]int64{{0, 0, 0, 0, 0, 1}}},
		{"1:0;1:0;1:0;1:0;1:0;4:1*abcde", 4, [][]int64{{0, 1, 0, 0, 5}, {0, 1, 0, 0, 5}, {0, 1, 0, 0, 5}, {0, 1, 0, 0, 5}, {0, 1, 0, 0, 5}, {0, 0, 0, 0, 5}}},
		// A form with shorter words than another one may lead to the same.
		{"2:0;3:1*a2;5:1*a3", 5, [][]int64{{0, 1, 1}, {0, 1, 1}, {0, 1, 0}}},
		{"2:0;3:1*a2;5:1*a3", 6, [][]int64{{0, 0, 0, 1}, {0, 0, 0, 1}, {0, 0, 0, 0}}},
		// Some dimensions are missing earlier than others.
		{both, 5, [][]int64{{0, 2}, {0, 2}, {0, 1}, {0, 0}}},
		{both, 6, [][]int64{{0, 0, 1, 1}, {0, 0, 1, 1}, {0, 0, 0, 1}, {0, 0, 0, 0}}},
		{both, 7, [][]int64{{0, 0, 2}, {0, 0, 2}, {0, 0, 1}, {0, 0, 0}}},
		// The monomial b2 is missing at 2, though d c has the longer word a4, too.
		{"2:0;4:0;7:1*a4+1*b2", 8, [][]int64{{0, 0, 1, 1, 1}, {0, 0, 1, 1, 1}, {0, 0, 0, 1, 1}}},
		{"12:1*ab;1:0;12:0", 13, [][]int64{{0, 0, 2}, {0, 0, 2}, {0, 0, 1}}},
	}
}

func TestKnownPages(t *testing.T) {
	for _, c := range knownPages() {
		a := algebra(t, c.text)
		last := len(c.rows) - 1
		if got := stopOf(t, a, c.n); got != int64(last) {
			t.Errorf("PagesStopAt(%q, %d) = %d, not %d", c.text, c.n, got, last)
		}
		for r := range int64(impl.MaxPage + 1) {
			want := c.rows[min(int(r), last)]
			if got := pageRow(t, a, r, c.n); !slices.Equal(got, want) {
				t.Errorf("PageRow(%q, %d, %d) = %v, not %v", c.text, r, c.n, got, want)
			}
			for p := range int64(impl.MaxPage + 1) {
				k := int64(0)
				if p < int64(len(want)) {
					k = want[p]
				}
				if got := pageDimension(t, a, r, p, c.n); got != k {
					t.Errorf("PageDimension(%q, %d, %d, %d) = %d, not %d", c.text, r, p, c.n, got, k)
				}
			}
		}
	}
}

// checkPages compares all pages of a degree with those that the chapter tells, up to some behind their last one.
func checkPages(t *testing.T, x filtered, n int64) int64 {
	t.Helper()
	stop := x.stop(n)
	if got := stopOf(t, x.a, n); got != stop {
		t.Fatalf("PagesStopAt(%v, %d) = %d, not %d", x.a, n, got, stop)
	}
	width := x.width(n)
	for _, r := range append(numbersTo(stop+1), width+2, impl.MaxPage) {
		want := x.row(r, n)
		if got := pageRow(t, x.a, r, n); !slices.Equal(got, want) {
			t.Fatalf("PageRow(%v, %d, %d) = %v, not %v", x.a, r, n, got, want)
		}
		for _, p := range append(numbersTo(width+1), impl.MaxPage) {
			if got, want := pageDimension(t, x.a, r, p, n), x.page(r, p, n); got != want {
				t.Fatalf("PageDimension(%v, %d, %d, %d) = %d, not %d", x.a, r, p, n, got, want)
			}
		}
	}
	return stop
}

// numbersTo returns the numbers from 0 to k.
func numbersTo(k int64) []int64 {
	var list []int64
	for i := range k + 1 {
		list = append(list, i)
	}
	return list
}

func TestPagesByWords(t *testing.T) {
	counts := map[int64]int{}
	for _, text := range pageTexts() {
		x := filteredOf(algebra(t, text))
		for n := range int64(impl.MaxAsked + 1) {
			counts[checkPages(t, x, n)]++
		}
	}
	r := rand.New(rand.NewSource(216))
	for range 150 {
		x := filteredOf(pageAlgebra(t, r, 16))
		for range 4 {
			counts[checkPages(t, x, r.Int63n(impl.MaxAsked+1))]++
		}
	}
	// As d of a minimal algebra adds at least one letter, no pages stop at 1.
	if counts[1] != 0 || min(counts[0], counts[2], counts[3], counts[4]) < 10 || counts[5] == 0 {
		t.Errorf("the numbers at which pages stop: %v", counts)
	}
}

// TestPagesAndNames has the same algebra with its generators in another order, and scaled.
func TestPagesAndNames(t *testing.T) {
	r := rand.New(rand.NewSource(217))
	for range 150 {
		a := pageAlgebra(t, r, 60)
		b := shuffled(r, a)
		if len(b.Degrees) > 0 {
			b = scaledBy(t, b, r.Intn(len(b.Degrees)), 1+r.Int63n(impl.FieldPrime-1))
		}
		for n := range int64(impl.MaxAsked + 1) {
			if stopOf(t, a, n) != stopOf(t, b, n) {
				t.Fatalf("PagesStopAt(%v or %v, %d) differ", a, b, n)
			}
			for page := range int64(6) {
				if !slices.Equal(pageRow(t, a, page, n), pageRow(t, b, page, n)) {
					t.Fatalf("PageRow(%v or %v, %d, %d) differ", a, b, page, n)
				}
			}
		}
	}
}

// TestPagesOfChanges has the same algebra with other generators of longer words, which keep F.
func TestPagesOfChanges(t *testing.T) {
	r := rand.New(rand.NewSource(218))
	some := 0
	for range 300 {
		a := pageAlgebra(t, r, 40)
		if len(a.Degrees) == 0 {
			continue
		}
		i := r.Intn(len(a.Degrees))
		b := changedByWords(a, i, randomChange(r, a, i)).b
		if !impl.IsAlgebra(b) || sameAlgebras(a, b) {
			continue
		}
		some++
		for n := range int64(impl.MaxAsked + 1) {
			for _, page := range numbersTo(5) {
				if !slices.Equal(pageRow(t, a, page, n), pageRow(t, b, page, n)) {
					t.Fatalf("PageRow(%v or %v, %d, %d) differ", a, b, page, n)
				}
			}
		}
	}
	if some < 50 {
		t.Errorf("only %d changes", some)
	}
}
