package tests

import (
	"math/rand"
	"slices"
	"testing"

	"loop.example/g01219/impl"
)

func TestProductTable(t *testing.T) {
	cases := []struct {
		algebra string
		n, m    int64
		want    [][]int64
	}{
		{"", 0, 0, [][]int64{{1}}},
		{"", 0, 1, nil},
		{"", 14, 0, nil},
		{"2:0", 0, 14, [][]int64{{1}}},
		{"2:0", 14, 0, [][]int64{{1}}},
		{"2:0", 6, 8, [][]int64{{1}}},
		{"2:0", 7, 7, nil},
		{"2:0", 1, 2, nil},
		{"2:0", 2, 1, nil},
		{"2:0;5:1*a3", 0, 0, [][]int64{{1}}},
		{"2:0;5:1*a3", 2, 2, [][]int64{{1}}},
		{"2:0;5:1*a3", 0, 4, [][]int64{{1}}},
		{"2:0;5:1*a3", 2, 4, [][]int64{nil}},
		{"2:0;5:1*a3", 4, 4, [][]int64{nil}},
		{"2:0;5:1*a3", 6, 2, nil},
		{"1:0;1:0", 1, 1, [][]int64{{0}, {1}, {10006}, {0}}},
		{"1:0;1:0", 1, 2, [][]int64{nil, nil}},
		{"3:0;5:0", 3, 5, [][]int64{{1}}},
		{"3:0;5:0", 5, 3, [][]int64{{10006}}},
		{"2:0;3:0", 3, 2, [][]int64{{1}}},
		{"2:0;2:0", 2, 2, [][]int64{{1, 0, 0}, {0, 1, 0}, {0, 1, 0}, {0, 0, 1}}},
		{"2:0;2:0;3:1*a2+3*ab", 2, 2, [][]int64{{10004, 0}, {1, 0}, {1, 0}, {0, 1}}},
		{heisenberg, 1, 1, [][]int64{{0, 0}, {0, 0}, {0, 0}, {0, 0}}},
		{heisenberg, 1, 2, [][]int64{{0}, {1}, {10006}, {0}}},
		{heisenberg, 2, 1, [][]int64{{0}, {10006}, {1}, {0}}},
		{heisenberg, 2, 0, [][]int64{{1, 0}, {0, 1}}},
		{"1:0;1:0;1:0", 1, 2, [][]int64{{0}, {0}, {1}, {0}, {10006}, {0}, {1}, {0}, {0}}},
		{"2:0;3:1*a2;2:0;3:1*c2", 2, 2, [][]int64{{0}, {1}, {1}, {0}}},
	}
	for _, c := range cases {
		if got, code := impl.ProductTable(algebra(t, c.algebra), c.n, c.m); !sameTables(got, c.want) || code != impl.ErrNone {
			t.Errorf("ProductTable(%q, %d, %d) = %v, %d", c.algebra, c.n, c.m, got, code)
		}
	}
}

// checkProductTable compares a product table with the products of the class forms: less the sum of class forms that
// a row tells, each is a boundary.
func checkProductTable(t *testing.T, a impl.Algebra, n, m int64) [][]int64 {
	t.Helper()
	table, code := impl.ProductTable(a, n, m)
	left, right, forms := classForms(t, a, n), classForms(t, a, m), classForms(t, a, n+m)
	if code != impl.ErrNone || len(table) != len(left)*len(right) {
		t.Fatalf("ProductTable(%v, %d, %d) = %v, %d", a, n, m, table, code)
	}
	below := boundariesByWords(a, n+m)
	for i, f := range left {
		for j, g := range right {
			numbers := table[i*len(right)+j]
			if len(numbers) != len(forms) || !below.has(minus(productByWords(a.Degrees, f, g), combination(numbers, forms))) {
				t.Fatalf("ProductTable(%v, %d, %d) has %v for %v and %v", a, n, m, numbers, f, g)
			}
			single, code := impl.ProductOfClasses(a, n, int64(i), m, int64(j))
			if code != impl.ErrNone || !slices.Equal(single, numbers) {
				t.Fatalf("ProductTable(%v, %d, %d) has %v, and ProductOfClasses %v, %d", a, n, m, numbers, single, code)
			}
		}
	}
	return table
}

func isZeroList(numbers []int64) bool {
	return !slices.ContainsFunc(numbers, func(x int64) bool { return x != 0 })
}

func isZeroTable(table [][]int64) bool {
	return isZeroList(slices.Concat(table...))
}

func TestProductTablesByWords(t *testing.T) {
	r := rand.New(rand.NewSource(141))
	great, others, empty, wide := 0, 0, 0, 0
	for range 1200 {
		a := smallAlgebra(t, r, 8, 40)
		if r.Intn(2) == 0 {
			a = richAlgebra(t, r)
		}
		n := r.Int63n(5)
		table := checkProductTable(t, a, n, r.Int63n(5))
		switch {
		case len(table) == 0:
			empty++
		case len(table) >= 6 && !isZeroTable(table):
			great++
		}
		for _, numbers := range table {
			if slices.ContainsFunc(numbers, func(x int64) bool { return x > 1 && x < impl.FieldPrime-1 }) {
				others++
			}
			if len(numbers) > 1 {
				wide++
			}
		}
	}
	if great < 50 || others < 50 || empty < 50 || wide < 50 {
		t.Errorf("only %d great tables, %d rows with other numbers than 0, 1 and -1, %d empty tables, and %d wide rows", great, others, empty, wide)
	}
}

// TestGreatProductTables takes tables of known spaces with many rows, which many goroutines fill.
func TestGreatProductTables(t *testing.T) {
	torus := algebra(t, "1:0;1:0;1:0;1:0;1:0;1:0;1:0;1:0")
	for _, n := range []int64{1, 2, 3} {
		checkProductTable(t, torus, n, 4-n)
	}
	table, code := impl.ProductTable(torus, 4, 4)
	if len(table) != 70*70 || code != impl.ErrNone {
		t.Fatalf("the product table has %d rows; code %d", len(table), code)
	}
	some := 0
	for place, numbers := range table {
		if len(numbers) != 1 {
			t.Fatalf("the row %d is %v", place, numbers)
		}
		if numbers[0] != 0 {
			some++
			if i, j := place/70, place%70; j != 69-i { // class forms and their complements stand in opposite order
				t.Fatalf("the row %d is %v", place, numbers)
			}
		}
	}
	if some != 70 {
		t.Errorf("%d products are not 0", some)
	}
	for range 20 {
		if again, code := impl.ProductTable(torus, 4, 4); !sameTables(again, table) || code != impl.ErrNone {
			t.Fatalf("a second product table is other than the first one; code %d", code)
		}
	}
}
