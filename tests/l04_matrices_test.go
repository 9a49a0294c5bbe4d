package tests

import (
	"math/rand"
	"testing"

	"loop.example/g01219/impl"
)

func TestMapMatrix(t *testing.T) {
	const sphere, plane, torus = "2:0;3:1*a2", "2:0;5:1*a3", "1:0;1:0"
	cases := []struct {
		mapCase
		n    int64
		want [][]int64
		rank int64
	}{
		{mapCase{"", "", nil}, 0, [][]int64{{1}}, 1},
		{mapCase{"", "", nil}, 1, nil, 0},
		{mapCase{"", "", nil}, 20, nil, 0},
		{mapCase{"", sphere, nil}, 0, [][]int64{{1}}, 1},
		{mapCase{"", sphere, nil}, 2, nil, 0},
		{mapCase{sphere, "", []string{"0", "0"}}, 0, [][]int64{{1}}, 1},
		{mapCase{sphere, "", []string{"0", "0"}}, 2, [][]int64{{}}, 0},
		{mapCase{sphere, sphere, []string{"3*a", "9*b"}}, 0, [][]int64{{1}}, 1},
		{mapCase{sphere, sphere, []string{"3*a", "9*b"}}, 2, [][]int64{{3}}, 1},
		{mapCase{sphere, sphere, []string{"3*a", "9*b"}}, 3, nil, 0},
		{mapCase{sphere, sphere, []string{"3*a", "9*b"}}, 4, nil, 0},
		{mapCase{sphere, sphere, []string{"0", "0"}}, 2, [][]int64{{0}}, 0},
		{mapCase{plane, sphere, []string{"2*a", "8*ab"}}, 2, [][]int64{{2}}, 1},
		{mapCase{plane, sphere, []string{"2*a", "8*ab"}}, 4, [][]int64{{}}, 0},
		{mapCase{sphere, plane, []string{"0", "0"}}, 4, nil, 0},
		{mapCase{"2:0", sphere, []string{"5*a"}}, 2, [][]int64{{5}}, 1},
		{mapCase{"2:0", sphere, []string{"5*a"}}, 20, [][]int64{{}}, 0},
		{mapCase{"2:0", "2:0", []string{"3*a"}}, 20, [][]int64{{59049 - 5*10007}}, 1},
		{mapCase{"2:0;2:0", "2:0;2:0", []string{"1*a+1*b", "1*a+10006*b"}}, 4, [][]int64{{1, 2, 1}, {1, 0, 10006}, {1, 10005, 1}}, 3},
		{mapCase{"2:0;2:0", "2:0", []string{"1*a", "1*a"}}, 4, [][]int64{{1}, {1}, {1}}, 1},
		{mapCase{"2:0", "1:0;1:0;1:0;1:0", []string{"1*ab+1*cd"}}, 2, [][]int64{{1, 0, 0, 0, 0, 1}}, 1},
		{mapCase{"2:0", "1:0;1:0;1:0;1:0", []string{"1*ab+1*cd"}}, 4, [][]int64{{2}}, 1},
		{mapCase{"2:0", "1:0;1:0;1:0;1:0", []string{"1*ab+1*cd"}}, 6, [][]int64{{}}, 0},
		{mapCase{torus, torus, []string{"2*a+3*b", "5*a+7*b"}}, 1, [][]int64{{2, 3}, {5, 7}}, 2},
		{mapCase{torus, torus, []string{"2*a+3*b", "5*a+7*b"}}, 2, [][]int64{{10006}}, 1},
		{mapCase{torus, torus, []string{"2*a+3*b", "4*a+6*b"}}, 1, [][]int64{{2, 3}, {4, 6}}, 1},
		{mapCase{torus, torus, []string{"2*a+3*b", "4*a+6*b"}}, 2, [][]int64{{0}}, 0},
		{mapCase{"1:0;1:0;1:1*ab", "1:0;1:0;1:1*ab", []string{"1*b", "1*a", "10006*c"}}, 1, [][]int64{{0, 1}, {1, 0}}, 2},
		{mapCase{"1:0;1:0;1:1*ab", "1:0;1:0;1:1*ab", []string{"1*b", "1*a", "10006*c"}}, 2, [][]int64{{0, 10006}, {10006, 0}}, 2},
		{mapCase{"2:0;2:0", "2:0;2:0;3:1*a2+3*ab", []string{"1*a", "1*b"}}, 4, [][]int64{{10004, 0}, {1, 0}, {0, 1}}, 2},
	}
	for _, c := range cases {
		x := c.mapping(t)
		if got, code := impl.MapMatrix(x.a, x.b, x.m, c.n); !sameTables(got, c.want) || code != impl.ErrNone {
			t.Errorf("MapMatrix(%v, %d) = %v, %d", c.mapCase, c.n, got, code)
		}
		if got, code := impl.MapRank(x.a, x.b, x.m, c.n); got != c.rank || code != impl.ErrNone {
			t.Errorf("MapRank(%v, %d) = %d, %d", c.mapCase, c.n, got, code)
		}
	}
}

// TestMapMatricesByWords checks that the image of a class form, less the combination of class forms that
// its row tells, is a boundary, and that the rank is that of the images modulo boundaries.
func TestMapMatricesByWords(t *testing.T) {
	r := rand.New(rand.NewSource(86))
	some, reduced, partial := 0, 0, 0
	for range 300 {
		x := randomMap(t, r, 40)
		for n := range int64(10) {
			from, to := classForms(t, x.a, n), classForms(t, x.b, n)
			below, all := boundariesByWords(x.b, n), boundariesByWords(x.b, n)
			got := matrixOf(t, x, n)
			if len(got) != len(from) {
				t.Fatalf("MapMatrix(%v, %d) = %v", x, n, got)
			}
			rank := int64(0)
			for i, row := range got {
				image := x.imageByWords(from[i])
				if len(row) != len(to) || !below.has(minus(image, combination(row, to))) {
					t.Fatalf("MapMatrix(%v, %d) = %v", x, n, got)
				}
				if all.add(image) {
					rank++
				}
				if len(image.Terms) > 0 && !sameForms(image, combination(row, to)) {
					reduced++
				}
			}
			if got, code := impl.MapRank(x.a, x.b, x.m, n); got != rank || code != impl.ErrNone {
				t.Fatalf("MapRank(%v, %d) = %d, %d, not %d", x, n, got, code, rank)
			}
			if rank > 0 && n > 0 {
				some++
			}
			if rank > 0 && rank < int64(min(len(from), len(to))) {
				partial++
			}
		}
	}
	if some < 300 || reduced < 30 || partial < 30 {
		t.Errorf("only %d ranks, %d images with boundaries, and %d ranks between", some, reduced, partial)
	}
}

// timesTable returns the product of two matrices, of which the second one has width columns.
func timesTable(x, y [][]int64, width int) [][]int64 {
	var product [][]int64
	for _, row := range x {
		sums := make([]int64, width)
		for i, k := range row {
			for j := range sums {
				sums[j] = (sums[j] + k*y[i][j]) % impl.FieldPrime
			}
		}
		product = append(product, sums)
	}
	return product
}

// TestMatricesOfCompositions checks that they are the products of those of both maps.
func TestMatricesOfCompositions(t *testing.T) {
	r := rand.New(rand.NewSource(87))
	some := 0
	for range 700 {
		x := randomMap(t, r, 40)
		y := randomMapping(r, x.b, randomTarget(t, r, x.b, 40))
		both := composed(t, x, y)
		for n := range int64(10) {
			want := timesTable(matrixOf(t, x, n), matrixOf(t, y, n), len(classForms(t, y.b, n)))
			if got := matrixOf(t, both, n); !sameTables(got, want) {
				t.Fatalf("the matrix of %v then %v is %v, not %v", x, y, got, want)
			}
			if rank, _ := impl.MapRank(x.a, y.b, both.m, n); rank > 0 && n > 0 {
				some++
			}
		}
	}
	if some < 200 {
		t.Errorf("only %d matrices are not 0", some)
	}
}

// TestMatricesOfIdentities checks that they are unit matrices, and that identities are isomorphic.
func TestMatricesOfIdentities(t *testing.T) {
	for _, k := range knownAlgebras() {
		a := algebra(t, k.text)
		x := mapping{a, a, identityForms(a)}
		for n := range int64(impl.MaxAsked + 1) {
			got := matrixOf(t, x, n)
			for i, row := range got {
				for j, factor := range row {
					if i == j && factor != 1 || i != j && factor != 0 {
						t.Errorf("the matrix of the identity of %q in the degree %d is %v", k.text, n, got)
					}
				}
			}
			if rank, code := impl.MapRank(a, a, x.m, n); rank != k.bettiOf(n) || int(rank) != len(got) || code != impl.ErrNone {
				t.Errorf("the rank of the identity of %q in the degree %d is %d, %d", k.text, n, rank, code)
			}
		}
		if yes, code := impl.IsIsomorphicTo(a, a, x.m, impl.MaxAsked); !yes || code != impl.ErrNone {
			t.Errorf("the identity of %q is not isomorphic", k.text)
		}
	}
}

// bettiOf returns the Betti number of a degree.
func (k knownAlgebra) bettiOf(n int64) int64 {
	if n >= int64(len(k.betti)) {
		return 0
	}
	return k.betti[n]
}

// TestIsIsomorphicTo has the greatest degree up to which a map is isomorphic.
func TestIsIsomorphicTo(t *testing.T) {
	const sphere, plane = "2:0;3:1*a2", "2:0;5:1*a3"
	cases := []struct {
		mapCase
		most int64
	}{
		{mapCase{"", "", nil}, 20},
		{mapCase{"", sphere, nil}, 1},
		{mapCase{sphere, "", []string{"0", "0"}}, 1},
		{mapCase{"", "1:1*b;2:0", nil}, 20},
		{mapCase{"1:1*b;2:0", "", []string{"0", "0"}}, 20},
		{mapCase{"", "4:0", nil}, 3},
		{mapCase{"", "12:0", nil}, 11},
		{mapCase{"11:0", "", []string{"0"}}, 10},
		{mapCase{"1:0", "", []string{"0"}}, 0},
		{mapCase{sphere, sphere, []string{"3*a", "9*b"}}, 20},
		{mapCase{sphere, sphere, []string{"0", "0"}}, 1},
		{mapCase{sphere, "3:7*b2;2:0", []string{"7*b", "7*a"}}, 20},
		{mapCase{"2:0", plane, []string{"1*a"}}, 5},
		{mapCase{"2:0", sphere, []string{"1*a"}}, 3},
		{mapCase{plane, sphere, []string{"1*a", "1*ab"}}, 3},
		{mapCase{"2:0;2:0", "2:0;2:0", []string{"1*a+1*b", "1*a+10006*b"}}, 20},
		{mapCase{"2:0;2:0", "2:0;2:0", []string{"1*a+1*b", "2*a+2*b"}}, 1},
		{mapCase{"2:0;2:0", "2:0", []string{"1*a", "1*a"}}, 1},
		{mapCase{"2:0", "2:0;2:0", []string{"1*a"}}, 1},
		{mapCase{"2:0", "2:0;6:0", []string{"1*a"}}, 5},
		{mapCase{"1:0;1:0;1:0", "1:0;1:0;1:0", []string{"1*a+2*b", "3*b+4*c", "6*a+5*c"}}, 20},
		{mapCase{"1:0;1:0;1:1*ab", "1:0;1:0;1:1*ab", []string{"1*b", "1*a", "10006*c"}}, 20},
		{mapCase{"2:0;2:0;3:1*a2+10006*b2", "2:0", []string{"1*a", "1*a", "0"}}, 1},
		{mapCase{"2:0;1:1*a;2:0", "2:0", []string{"0", "0", "1*a"}}, 20},
	}
	for _, c := range cases {
		x := c.mapping(t)
		for n := range int64(impl.MaxAsked + 1) {
			if got, code := impl.IsIsomorphicTo(x.a, x.b, x.m, n); got != (n <= c.most) || code != impl.ErrNone {
				t.Errorf("IsIsomorphicTo(%v, %d) = %v, %d", c.mapCase, n, got, code)
			}
		}
	}
}

// TestIsIsomorphicToByMatrices checks it against the ranks and the Betti numbers.
func TestIsIsomorphicToByMatrices(t *testing.T) {
	r := rand.New(rand.NewSource(88))
	answers := map[bool]int{}
	for range 300 {
		x := randomMap(t, r, 40)
		want := true
		for n := range int64(10) {
			rank, _ := impl.MapRank(x.a, x.b, x.m, n)
			want = want && bettiByWords(x.a, n) == int(rank) && bettiByWords(x.b, n) == int(rank)
			if got, code := impl.IsIsomorphicTo(x.a, x.b, x.m, n); got != want || code != impl.ErrNone {
				t.Fatalf("IsIsomorphicTo(%v, %d) = %v, %d", x, n, got, code)
			}
			if n > 2 {
				answers[want]++
			}
		}
	}
	if answers[true] < 100 || answers[false] < 100 {
		t.Errorf("the answers were %v", answers)
	}
}
