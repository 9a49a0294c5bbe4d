package tests

import (
	"math/rand"
	"slices"
	"testing"

	"loop.example/g01219/impl"
)

func TestConstantsOfCohomology(t *testing.T) {
	if limits := []int64{impl.MaxAsked, impl.MaxSide}; !slices.Equal(limits, []int64{20, 120}) {
		t.Errorf("limits are %v", limits)
	}
}

func sameTables(x, y [][]int64) bool {
	return slices.EqualFunc(x, y, slices.Equal[[]int64])
}

func TestMatrixOfD(t *testing.T) {
	cases := []struct {
		algebra string
		n       int64
		want    [][]int64
		rank    int64
	}{
		{"", 0, [][]int64{{}}, 0},
		{"", 1, nil, 0},
		{"", 20, nil, 0},
		{"1:0", 0, [][]int64{{0}}, 0},
		{"1:0", 1, [][]int64{{}}, 0},
		{"12:0", 12, [][]int64{{}}, 0},
		{"2:0;3:1*a2", 0, [][]int64{{}}, 0},
		{"2:0;3:1*a2", 1, nil, 0},
		{"2:0;3:1*a2", 2, [][]int64{{0}}, 0},
		{"2:0;3:1*a2", 3, [][]int64{{1}}, 1},
		{"2:0;3:7*a2", 5, [][]int64{{7}}, 1},
		{"3:7*b2;2:0", 5, [][]int64{{7}}, 1},
		{"2:0;3:1*a2", 19, [][]int64{{1}}, 1},
		{"2:0;3:1*a2", 20, [][]int64{{0}}, 0},
		{"1:1*c;1:1*d;2:0;2:0", 1, [][]int64{{0, 1, 0}, {0, 0, 1}}, 2},
		{"1:1*c;1:1*d;2:0;2:0", 2, [][]int64{{0, 10006, 1, 0}, {0, 0, 0, 0}, {0, 0, 0, 0}}, 1},
		{"1:1*c;1:1*d;2:0;2:0", 3, [][]int64{{0, 0, 1, 0, 0}, {0, 0, 0, 1, 0}, {0, 0, 0, 1, 0}, {0, 0, 0, 0, 1}}, 3},
		{"2:0;3:0;4:1*ab", 8, [][]int64{{0, 0}, {1, 0}, {0, 2}}, 2},
		{"2:0;3:5*a2;3:3*a2", 3, [][]int64{{5}, {3}}, 1},
		{"1:0;1:0;1:1*ab", 1, [][]int64{{0, 0, 0}, {0, 0, 0}, {1, 0, 0}}, 1},
		{"1:1*bc;1:1*ac;1:1*ab", 1, [][]int64{{0, 0, 1}, {0, 1, 0}, {1, 0, 0}}, 3},
	}
	for _, c := range cases {
		a := algebra(t, c.algebra)
		if got, code := impl.MatrixOfD(a, c.n); !sameTables(got, c.want) || code != impl.ErrNone {
			t.Errorf("MatrixOfD(%q, %d) = %v, %d", c.algebra, c.n, got, code)
		}
		if got, code := impl.RankOfD(a, c.n); got != c.rank || code != impl.ErrNone {
			t.Errorf("RankOfD(%q, %d) = %d, %d", c.algebra, c.n, got, code)
		}
	}
}

// TestMatricesByWords compares each row with d of its monomial, and the rank with the size of the
// space of all these.
func TestMatricesByWords(t *testing.T) {
	r := rand.New(rand.NewSource(50))
	ranks := 0
	for range 150 {
		a := smallAlgebra(t, r, 8, 40)
		for n := range int64(9) {
			var want [][]int64
			images := imagesOfMonomials(a, n)
			for _, f := range images {
				want = append(want, factorsOf(f, allMonomials(a.Degrees, n+1)))
			}
			if got, code := impl.MatrixOfD(a, n); !sameTables(got, want) || code != impl.ErrNone {
				t.Fatalf("MatrixOfD(%v, %d) = %v, %d, not %v", a, n, got, code, want)
			}
			rank := len(spanOf(images))
			if got, code := impl.RankOfD(a, n); got != int64(rank) || code != impl.ErrNone {
				t.Fatalf("RankOfD(%v, %d) = %d, %d, not %d", a, n, got, code, rank)
			}
			if rank > 3 && rank < min(len(images), len(want[0])) {
				ranks++
			}
		}
	}
	if ranks < 50 {
		t.Errorf("only %d ranks are not the greatest ones", ranks)
	}
}

// factorsOf returns the factors of monomials in a form.
func factorsOf(f impl.Form, monomials []impl.Monomial) []int64 {
	factors := make([]int64, len(monomials))
	for _, x := range f.Terms {
		factors[slices.Index(monomials, x.Monomial)] = x.Factor
	}
	return factors
}

func TestBettiNumbers(t *testing.T) {
	for _, k := range knownAlgebras() {
		a := algebra(t, k.text)
		want := slices.Concat(k.betti, make([]int64, impl.MaxAsked+1-len(k.betti)))
		for m := range int64(impl.MaxAsked + 1) {
			if got, code := impl.BettiNumbers(a, m); !slices.Equal(got, want[:m+1]) || code != impl.ErrNone {
				t.Errorf("BettiNumbers(%q, %d) = %v, %d", k.text, m, got, code)
			}
			if got := classForms(t, a, m); int64(len(got)) != want[m] {
				t.Errorf("ClassForms(%q, %d) = %v", k.text, m, got)
			}
		}
	}
}

func TestBettiNumbersByWords(t *testing.T) {
	r := rand.New(rand.NewSource(51))
	for range 150 {
		a := smallAlgebra(t, r, 8, 40)
		got, code := impl.BettiNumbers(a, 8)
		for n := range int64(9) {
			if code != impl.ErrNone || len(got) != 9 || got[n] != int64(bettiByWords(a, n)) {
				t.Fatalf("BettiNumbers(%v, 8) = %v, %d: %d in the degree %d", a, got, code, bettiByWords(a, n), n)
			}
		}
	}
}

// TestRanksAndClosedForms checks that the rank of a matrix and the number of closed forms add up to
// the number of monomials.
func TestRanksAndClosedForms(t *testing.T) {
	r := rand.New(rand.NewSource(52))
	for range 100 {
		a := smallAlgebra(t, r, 20, 120)
		for n := range int64(21) {
			rank, code := impl.RankOfD(a, n)
			matrix, _ := impl.MatrixOfD(a, n)
			if closed := closedForms(t, a, n); code != impl.ErrNone || rank+int64(len(closed)) != int64(len(matrix)) {
				t.Fatalf("%v: %d rows in the degree %d, the rank %d and %d closed forms", a, len(matrix), n, rank, len(closed))
			}
			if n < 20 && int64(len(boundaryForms(t, a, n+1))) != rank {
				t.Fatalf("%v: the rank of the degree %d is %d, with other boundaries", a, n, rank)
			}
		}
	}
}
